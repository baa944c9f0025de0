"""Points [3] and [30]: views on trees."""

import random
import unittest

from sayings import differences, drawn_statement, slow_say, spoiled_statement
from tables import drawn_query, drawn_tables, made, map_of, slow_answer, slow_problem, tree_of
from sameanswer.errors import AnswerError, Refused
from sameanswer.views import View

TABLES = {"t": made(1, "iti", {"i": (1,)}, (1, "a", 5), (2, "b", 5), (3, "a", 6)), "u": made(1, "i", {}, (1,))}


def is_(number, value):
    """The condition that a column has a value."""
    return ("=", ("column", "s", number), ("value", value))


def key_is(value):
    """The condition of a statement over t that the key is this one."""
    return ("=", ("column", "t", 0), ("value", value))


def on_t(*conditions):
    """The keys of the rows of t for which the conditions hold."""
    return ("select", (("column", "s", 0),), (("s", "t"),), conditions)


def tree_after(*statements):
    """The tree of the tables after some statements."""
    tables = TABLES
    for statement in statements:
        tables = slow_say(tables, statement)[1]
    return tree_of(map_of(tables))


SET = ("update", "t", ((2, ("value", 0)),), ())
INSERT = ("insert", "t", (9, "a", 9))
DROP = ("drop", "t")


class Views(unittest.TestCase):
    def asked(self, view, tree, answer, runs):
        for _ in range(2):
            self.assertEqual((view.ask(tree), view.runs), (answer, runs))

    def refused(self, call, problem):
        with self.assertRaises(Refused) as caught:
            call()
        self.assertEqual(caught.exception.problem, problem)
        self.assertIs(caught.exception.__class__, Refused)
        self.assertIsInstance(caught.exception, AnswerError)

    def test_it_is_run_once_at_first(self):
        view = View(tree_after(), on_t())
        self.assertEqual(vars(view)["runs"], 1)
        self.asked(view, tree_after(), [(1,), (2,), (3,)], 1)

    def test_an_answer_that_stays(self):
        view = View(tree_after(), on_t(is_(1, "a")))
        for statements in (
            [("insert", "u", (2,))], [("insert", "t", (9, "c", 1))], [("delete", "t", (key_is(2),))], [("drop", "u")],
            [("create", "x", ("text",), 1)], [INSERT, ("delete", "t", (key_is(9),))],
        ):
            self.asked(view, tree_after(*statements), [(1,), (3,)], 1)

    def test_something_it_looked_at_differs(self):
        view = View(tree_after(), on_t(is_(1, "a")))
        self.asked(view, tree_after(SET), [(1,), (3,)], 2)
        self.asked(view, tree_after(SET, INSERT), [(1,), (3,), (9,)], 3)
        self.asked(view, tree_after(), [(1,), (3,)], 4)
        self.asked(view, tree_after(("index", "t", "j", (2,))), [(1,), (3,)], 5)
        self.asked(view, tree_after(DROP, ("create", "t", ("integer", "text"), 1)), [], 6)

    def test_the_tree_on_which_the_answer_was_made_counts(self):
        view = View(tree_after(), on_t(is_(0, 1)))
        first, second = ("insert", "t", (7, "x", 0)), ("update", "t", ((2, ("plus", 1)),), (key_is(1),))
        self.asked(view, tree_after(first), [(1,)], 1)
        self.asked(view, tree_after(first, second), [(1,)], 2)
        self.asked(view, tree_after(second), [(1,)], 2)
        self.asked(view, tree_after(first), [(1,)], 3)

    def test_a_way_that_comes_later(self):
        # The plan of the new run looks at other ranges, which count from then on.
        view = View(tree_after(), ("select", ("count",), (("s", "t"),), (is_(2, 5),)))
        self.asked(view, tree_after(INSERT), [(2,)], 2)
        index = ("index", "t", "j", (2,))
        self.asked(view, tree_after(INSERT, index), [(2,)], 3)
        self.asked(view, tree_after(INSERT, index, ("insert", "t", (10, "a", 4))), [(2,)], 3)
        self.asked(view, tree_after(INSERT, index, ("insert", "t", (10, "a", 5))), [(3,)], 4)

    def test_a_query_that_is_refused_at_first(self):
        self.refused(lambda: View(tree_after(), ("select", ("count",), (("s", "x"),), ())), ("no table", "x"))
        self.refused(lambda: View(tree_after(), on_t(is_(7, 1))), ("no column", "s", 7))
        self.refused(lambda: View(tree_after(DROP), on_t()), ("no table", "t"))
        self.refused(lambda: View(tree_of({}), on_t(is_(1, 1))), ("no table", "t"))
        self.refused(lambda: View(tree_after(), on_t(is_(1, 1))), ("kinds",))

    def test_a_query_that_would_be_refused_now(self):
        view = View(tree_after(), on_t(is_(1, "a")))
        gone, other = tree_after(DROP), tree_after(DROP, ("create", "t", ("integer",), 1))
        kinds = tree_after(DROP, ("create", "t", ("integer", "integer"), 1))
        for _ in range(2):
            self.refused(lambda: view.ask(gone), ("no table", "t"))
            self.refused(lambda: view.ask(other), ("no column", "s", 1))
            self.refused(lambda: view.ask(kinds), ("kinds",))
            self.assertEqual(view.runs, 1)
        # It has kept what it had, so that nothing is run again where this is still right.
        self.asked(view, tree_after(), [(1,), (3,)], 1)
        self.asked(view, tree_after(("insert", "u", (5,))), [(1,), (3,)], 1)
        self.refused(lambda: view.ask(gone), ("no table", "t"))
        self.asked(view, tree_after(INSERT), [(1,), (3,), (9,)], 2)
        self.refused(lambda: view.ask(gone), ("no table", "t"))
        self.asked(view, tree_after(INSERT), [(1,), (3,), (9,)], 2)

    def test_lists_that_are_changed(self):
        view = View(tree_after(), on_t())
        view.ask(tree_after()).clear()
        self.asked(view, tree_after(), [(1,), (2,), (3,)], 1)
        view.ask(tree_after(INSERT)).append("more")
        self.asked(view, tree_after(INSERT), [(1,), (2,), (3,), (9,)], 2)

    def test_trees_stay(self):
        tree = tree_after()
        pages = dict(tree.pages)
        view = View(tree, on_t())
        view.ask(tree)
        view.ask(tree_after(INSERT))
        self.assertEqual(tree.pages, pages)

    def test_counts_and_sums(self):
        view = View(tree_after(), ("select", ("sum", ("column", "s", 2)), (("s", "t"),), ()))
        self.asked(view, tree_after(), [(16,)], 1)
        self.asked(view, tree_after(SET), [(0,)], 2)

    def test_drawn_views(self):
        counts = {}
        for seed in range(120):
            draw = random.Random(seed)
            tables = drawn_tables(draw, 5)
            query = drawn_query(draw, tables)
            view, runs, kept = View(tree_of(map_of(tables)), query), 1, tables
            for _ in range(draw.randrange(1, 12)):
                statement = drawn_statement(draw, tables)
                statement = spoiled_statement(draw, statement) if draw.randrange(8) == 0 else statement
                tables = slow_say(tables, statement)[1]
                if draw.randrange(2):
                    continue
                touched = differences(map_of(kept), map_of(tables))
                rerun = any(low <= key < high for key in touched for low, high in slow_say(kept, query)[2])
                problem = slow_problem(tables, query)
                if problem is None:
                    runs, kept = (runs + 1, tables) if rerun else (runs, kept)
                    self.asked(view, tree_of(map_of(tables)), slow_answer(tables, query), runs)
                else:
                    self.assertTrue(rerun)
                    self.refused(lambda: view.ask(tree_of(map_of(tables))), problem)
                    self.assertEqual(view.runs, runs)
                counts[problem is None, rerun] = counts.get((problem is None, rerun), 0) + 1
        self.assertEqual(len(counts), 3)
        self.assertGreater(min(counts.values()), 15)


if __name__ == "__main__":
    unittest.main()
