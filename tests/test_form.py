"""The form of the package: its files, what they define, and the limits on sizes and characters."""

import ast
import doctest
import inspect
import os
import unittest

import sameanswer
from iterations import passed_on
from sameanswer import (
    catalog, database, disk, errors, keys, looks, pages, queries, statements, store, transactions, trees, views,
)

FOLDER = os.path.dirname(sameanswer.__file__)
MODULES = {
    "errors": errors, "keys": keys, "pages": pages, "trees": trees, "disk": disk, "store": store, "looks": looks,
    "catalog": catalog, "queries": queries, "statements": statements, "transactions": transactions, "views": views,
    "database": database,
}
FUNCTIONS = {
    "keys": {
        "key_of": ["values"], "values_of": ["key"], "prefix_range": ["key"], "is_in": ["key", "span"],
        "meet": ["first", "second"], "row_order": ["values"],
    },
    "pages": {"write_page": ["page"], "read_page": ["data"]},
    "store": {"head": ["commits", "root"], "read_head": ["sector"], "found": ["disk"]},
    "catalog": {
        "table": ["look", "name"], "indexes": ["look", "name"], "row_key": ["name", "values"],
        "index_key": ["name", "index", "values"], "row_changes": ["name", "shape", "found", "row", "present"],
    },
    "queries": {
        "check_query": ["look", "query"], "plans": ["look", "query"], "chosen": ["plans_list"],
        "run_plan": ["look", "query", "plan"], "answer": ["look", "query"], "plain": ["look", "query"],
    },
    "statements": {"say": ["look", "statement"]},
    "transactions": {"differing": ["first", "second"]},
}
CLASSES = {
    "errors": {
        "AnswerError": {}, "Refused": {"__init__": ["self", "problem"]}, "InvalidArgument": {}, "TransactionOpen": {},
        "NoTransaction": {}, "DiskFull": {}, "PowerOff": {}, "DatabaseOpen": {}, "DatabaseClosed": {},
        "DamagedData": {},
    },
    "trees": {
        "Tree": {
            "__init__": ["self", "root", "pages"], "get": ["self", "key"], "scan": ["self", "span"],
            "numbers": ["self"], "changed": ["self", "changes", "free"],
        },
    },
    "disk": {
        "Disk": {
            "__init__": ["self", "sectors"], "size": ["self"], "read": ["self", "index"], "pending": ["self"],
            "counts": ["self"], "write": ["self", "index", "data"], "sync": ["self"],
            "fail_after": ["self", "operations"], "power": ["self", "kept"], "is_on": ["self"], "losses": ["self"],
        },
    },
    "store": {"Store": {"__init__": ["self", "disk"], "commit": ["self", "changes"]}},
    "looks": {
        "Look": {
            "__init__": ["self", "tree", "changes"], "get": ["self", "key"], "scan": ["self", "span"],
            "looks": ["self"],
        },
    },
    "transactions": {
        "Transaction": {"__init__": ["self", "tree"], "run": ["self", "statement"], "again": ["self", "tree"]},
    },
    "views": {"View": {"__init__": ["self", "tree", "query"], "ask": ["self", "tree"]}},
    "database": {
        "Database": {
            "__init__": ["self", "disk"], "session": ["self"], "commits": ["self"], "entries": ["self"],
            "pages": ["self"], "view": ["self", "query"],
        },
        "Session": {
            "run": ["self", "statement"], "begin": ["self"], "commit": ["self"], "rollback": ["self"],
            "reruns": ["self"],
        },
        "KeptView": {"ask": ["self"], "runs": ["self"]},
    },
}


def sources():
    """The text of each file of the package."""
    found = {}
    for name in sorted(os.listdir(FOLDER)):
        if name != "__pycache__":
            with open(os.path.join(FOLDER, name), encoding="utf-8") as file:
                found[name] = file.read()
    return found


class Interface(unittest.TestCase):
    def test_functions_stand_in_their_files_with_their_arguments(self):
        for module, functions in FUNCTIONS.items():
            for name, arguments in functions.items():
                found = getattr(MODULES[module], name)
                self.assertEqual(found.__module__, f"sameanswer.{module}")
                self.assertEqual(list(inspect.signature(found).parameters), arguments, name)

    def test_classes_stand_in_their_files_with_their_own_methods(self):
        for module, classes in CLASSES.items():
            for name, methods in classes.items():
                found = getattr(MODULES[module], name)
                self.assertEqual(found.__module__, f"sameanswer.{module}")
                for method, arguments in methods.items():
                    self.assertEqual(list(inspect.signature(vars(found)[method]).parameters), arguments, name)

    def test_attributes_are_set_when_an_object_is_created(self):
        made = disk.Disk(100)
        self.assertIn("in_use", vars(made))
        self.assertLessEqual({"root", "pages"}, set(vars(trees.Tree(None, {}))))
        self.assertLessEqual({"commits", "tree"}, set(vars(store.Store(made))))
        tree = trees.Tree(None, {}).changed([((1, 128, 0, 0, 0, 0, 2, 116, 0), (1, 0))], [2])[0]
        self.assertIn("reruns", vars(transactions.Transaction(tree)))
        self.assertIn("runs", vars(views.View(tree, ("select", ("count",), (("s", "t"),), ()))))


class Files(unittest.TestCase):
    def test_the_package_has_only_python_files(self):
        self.assertEqual([name for name in sources() if not name.endswith(".py")], [])
        self.assertIn("__init__.py", sources())

    def test_characters_and_sizes(self):
        for name, text in sources().items():
            lines = text.split("\n")
            self.assertLess(len(lines), 400, name)
            self.assertLessEqual(max(len(line) for line in lines), 120, name)
            self.assertEqual({c for c in text if c != "\n" and not " " <= c <= "~"}, set(), name)

    def test_functions_have_at_most_40_lines(self):
        for name, text in sources().items():
            for node in ast.walk(ast.parse(text)):
                if isinstance(node, ast.FunctionDef):
                    self.assertLessEqual(node.end_lineno - node.lineno + 1, 40, (name, node.name))

    def test_imports_are_from_the_package_or_the_allowed_library(self):
        for name, text in sources().items():
            for node in ast.walk(ast.parse(text)):
                self.assertNotIsInstance(node, ast.Import, name)
                if isinstance(node, ast.ImportFrom):
                    first = node.module.split(".")[0]
                    self.assertIn(first, ("sameanswer", "heapq", "math", "itertools", "collections"), name)
                    self.assertEqual(node.level, 0, name)

    def test_strings_have_no_percent_sign(self):
        for name, text in sources().items():
            for node in ast.walk(ast.parse(text)):
                if isinstance(node, ast.Constant) and isinstance(node.value, str):
                    self.assertNotIn("%", node.value, name)

    def test_ranges_zips_and_views_are_iterated_and_not_passed_on(self):
        for name, text in sources().items():
            self.assertEqual(passed_on(text), [], name)


class Iterations(unittest.TestCase):
    """The search for what is passed on finds it, and finds nothing else."""

    def found(self, rows):
        """The numbers of the rows, as those of a function, in which something is passed on."""
        return [line - 1 for line in passed_on("\n".join(["def f(xs, d, k):"] + ["    " + row for row in rows]))]

    def test_what_is_passed_on_is_found(self):
        for row in (
            "g(range(k))", "g(k, range(k))", "xs.g(range(k))", "g(n=range(k))", "g(*range(k))", "g(**d, n=range(k))",
            "g(range(k) if k else xs)", "g(xs or range(k))", "g([range(k)])", "g((k, range(k)))", "g({k: range(k)})",
            "g(lambda: range(k))", "list(g(range(k)))", "for n in g(range(k)): pass", "[n for n in g(range(k), d)]",
            "len(xs) + g(range(k))", "return range(k)", "return g(range(k))", "yield range(k)", "xs[0] = range(k)",
            "self.r = range(k)", "a = b = range(k)", "r: object = range(k)", "g(r := range(k))", "a, *b = range(k)",
            "xs += range(k)", "xs.extend(range(k))", "map(g, range(k))", "max(range(k), key=g)", "max(k, range(k))",
            "sum(xs, range(k))", "sep.join(range(k))", "set(range(k))", "range(k) == xs", "g(zip(xs, xs))",
            "g(enumerate(xs))", "g(reversed(xs))", "g(d.items())", "g(d.keys())", "g(d.values())", "len(zip(xs, xs))",
            "reversed(d.items())", "k in zip(xs, xs)", "range(k) in xs", "for n in xs: g(range(n))",
            "xs[0](range(k))", "(lambda r: r)(range(k))", "g(k)(range(k))", "k in range(k) in xs",
        ):
            self.assertEqual(self.found([row]), [1], row)

    def test_what_is_kept_and_then_passed_on_is_found(self):
        for row in ("g(r)", "return r", "xs.append(r)", "g(k, n=r)", "g(*r)", "for n in g(r): pass", "q = r", "[r]"):
            self.assertEqual(self.found(["r = range(k)", row]), [2], row)
            self.assertEqual(self.found(["r = d.items()", row]), [2], row)
        self.assertEqual(self.found(["r = range(k)", "for n in r: pass", "g(r)", "list(r)", "g(r)"]), [3, 5])
        self.assertEqual(self.found(["if k:", "    r = range(k)", "    for n in xs:", "        g(r, n)"]), [4])
        self.assertEqual(passed_on("R = range(3)"), [1])
        self.assertEqual(passed_on("def g(k, r=range(3)): pass"), [1])

    def test_what_is_iterated_at_once_is_not_found(self):
        for row in (
            "for n in range(k): g(n)", "[g(n) for n in range(k)]", "{n: k for n in range(k)}", "g(list(range(k)))",
            "g(tuple(range(k)), k)", "g(sorted(range(k)))", "sum(range(k), 3)", "g(all(n for n in range(k)))",
            "list(enumerate(range(k)))", "[n for n in zip(range(k), xs)]", "min(range(k))", "max(range(k), default=0)",
            "k in range(9)", "k not in d.keys()", "len(range(k))", "len(d.items())", "for n in reversed(range(k)): g(n)",
            "g(sorted(d.items()))", "', '.join(d.values())", "for n in permutations(range(k)): g(n)", "g(range)",
            "for n, x in enumerate(xs): g(n, x)", "for a, b in zip(xs, xs): g(a, b)", "g(list(reversed(xs)))",
        ):
            self.assertEqual(self.found([row]), [], row)

    def test_what_is_kept_and_then_iterated_is_not_found(self):
        for row in (
            "for n in r: g(n)", "g(list(r))", "[n for n in r]", "g(len(r))", "g(r[0])", "k in r", "g(k in r, max(r))",
            "for n in reversed(r): g(n)", "for n in enumerate(r): g(n)", "g(xs)",
        ):
            self.assertEqual(self.found(["r = range(k)", row]), [], row)
        # The same name in another function means something else.
        self.assertEqual(passed_on("def f(k):\n    r = range(k)\n    return list(r)\ndef h(r):\n    g(r)"), [])


class Readme(unittest.TestCase):
    def test_the_examples_of_the_readme(self):
        told = doctest.testfile(os.path.join(os.path.dirname(FOLDER), "README.md"), module_relative=False)
        self.assertEqual(told.failed, 0)
        self.assertGreater(told.attempted, 0)


if __name__ == "__main__":
    unittest.main()
