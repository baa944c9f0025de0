"""Where ranges, zips, enumerations and views of dicts are passed on instead of iterated (rule L23 of the language)."""

import ast

MAKERS = ("range", "zip", "enumerate", "reversed")
VIEWS = ("items", "keys", "values")

# What iterates over its first argument at once.
READERS = ("list", "tuple", "dict", "sorted", "sum", "any", "all", "enumerate", "zip", "bytes")
# What iterates over each of its arguments; it is iterated at once itself by a rule of its own.
PRODUCTS = ("product", "combinations", "permutations")


def passed_on(text):
    """The sorted list of the lines of a file in which something made to be iterated is used otherwise."""
    tree = ast.parse(text)
    parents = {child: node for node in ast.walk(tree) for child in ast.iter_child_nodes(node)}
    wrong = [node for node in ast.walk(tree) if maker(node) and not is_used_well(node, maker(node), parents)]
    for node in ast.walk(tree):
        if is_kept(node, parents):
            name = node.targets[0].id
            uses = loads(function_around(node, parents), name)
            wrong.extend([use for use in uses if not is_iterated(use, maker(node.value), parents[use], True)])
    return sorted({node.lineno for node in wrong})


def maker(node):
    """The word by which this call makes something to be iterated, or None if it makes nothing of the kind."""
    if not isinstance(node, ast.Call):
        return None
    if isinstance(node.func, ast.Name):
        return node.func.id if node.func.id in MAKERS else None
    is_view = isinstance(node.func, ast.Attribute) and node.func.attr in VIEWS and not node.args
    return node.func.attr if is_view else None


def is_used_well(node, word, parents):
    """True if what is made here is iterated at once, or kept by a local variable, whose uses are tested then."""
    return is_kept(parents[node], parents) or is_iterated(node, word, parents[node], False)


def is_kept(node, parents):
    """True if this gives a plain local variable something that is made to be iterated."""
    return (
        isinstance(node, ast.Assign) and maker(node.value) is not None and len(node.targets) == 1
        and isinstance(node.targets[0], ast.Name) and function_around(node, parents) is not None
    )


def function_around(node, parents):
    """The function in which this stands, or None."""
    while node is not None and not isinstance(node, ast.FunctionDef):
        node = parents.get(node)
    return node


def loads(function, name):
    """The places of a function at which the variable is read."""
    names = [node for node in ast.walk(function) if isinstance(node, ast.Name)]
    return [node for node in names if node.id == name and isinstance(node.ctx, ast.Load)]


def is_iterated(node, word, parent, kept):
    """True if what surrounds this iterates over it, asks for its length, or for what is in it."""
    if isinstance(parent, (ast.For, ast.comprehension)):
        return parent.iter is node
    if isinstance(parent, ast.Compare):
        has_members = word in ("range", "keys") or kept and word in VIEWS
        return has_members and is_searched(node, parent)
    if isinstance(parent, ast.Subscript):
        return kept and word == "range" and parent.value is node
    return isinstance(parent, ast.Call) and node in parent.args and is_taken(node, word, parent)


def is_searched(node, comparison):
    """True if the comparison asks whether something is in this, and nothing more."""
    return comparison.comparators == [node] and isinstance(comparison.ops[0], (ast.In, ast.NotIn))


def is_taken(node, word, call):
    """True if the call, one of whose arguments this is, iterates over it at once."""
    first = node is call.args[0]
    if isinstance(call.func, ast.Attribute):
        return call.func.attr == "join" and isinstance(call.func.value, ast.Constant)
    if not isinstance(call.func, ast.Name):
        return False
    if call.func.id in ("min", "max"):
        return len(call.args) == 1 and {keyword.arg for keyword in call.keywords} <= {"default"}
    if call.func.id == "len":
        return word == "range" or word in VIEWS
    if call.func.id == "reversed":
        return word == "range"
    return call.func.id in PRODUCTS or call.func.id in READERS and first
