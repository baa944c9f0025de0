"""Tables as plain dicts, their map by point [7], and a second way to answer, to plan and to look at queries.

Tables are a dict with (key count, kinds, indexes, rows) for each name: indexes is a dict with a tuple of columns for
each name, rows is a dict with the row for its key values.
"""

import functools
import itertools

from models import slow_changed
from samples import ALLOWED, BOUND, comes_before, slow_key
from sameanswer.looks import Look
from sameanswer.trees import Tree

OPERATORS = ("=", "<>", "<", "<=", ">", ">=")
NUMBERS = (0, 1, 2, 3, -1, BOUND, -BOUND)
WORDS = ("", "a", "ab", "b", "zzzzzz", "~", " ")


def made(count, kinds, indexes, *rows):
    """A table with these rows; the kinds are letters."""
    kinds = tuple({"i": "integer", "t": "text"}[letter] for letter in kinds)
    return count, kinds, dict(indexes), {row[:count]: row for row in rows}


def map_of(tables):
    """The map of point [7] as a dict."""
    found = {}
    for name, (count, kinds, indexes, rows) in tables.items():
        found[slow_key((0, name))] = (count,) + tuple(1 if kind == "text" else 0 for kind in kinds)
        for index, columns in indexes.items():
            found[slow_key((1, name, index))] = columns
        for key_values, row in rows.items():
            found[slow_key((2, name) + key_values)] = row
            for index, columns in indexes.items():
                found[slow_key((3, name, index) + tuple(row[at] for at in columns) + key_values)] = ()
    return found


def tree_of(present):
    """A tree with this map."""
    root, pages, _ = slow_changed(None, {}, sorted(present.items()), list(range(2, 5000)))
    return Tree(root, pages)


def look_at(tables, draw=None):
    """A Look at the map of the tables; with draw, drawn parts of it are only in the changes."""
    present = map_of(tables)
    if draw is None:
        return Look(tree_of(present), {})
    behind = {key: value for key, value in present.items() if draw.randrange(3)}
    changes = {key: value for key, value in present.items() if key not in behind or draw.randrange(4) == 0}
    for key in changes:
        if draw.randrange(2):
            behind[key] = (draw.randrange(5), "old")
    for key in sorted(behind):
        near = key[:-1] + (key[-1] ^ 1,)
        if near not in present and draw.randrange(3) == 0:
            behind[near] = ("away",)
            changes[near] = None
    return Look(tree_of(behind), changes)


def before(first, second):
    """True if the value comes before the other one."""
    return comes_before((first,), (second,))


def in_order(rows):
    """The tuples of values in the order of point [4]."""
    def compare(one, other):
        return comes_before(other, one) - comes_before(one, other)

    return sorted(rows, key=functools.cmp_to_key(compare))


def worth(operand, choice):
    """The value of an operand, where choice has the rows of the sources; None if its source has no row."""
    if operand[0] == "value":
        return operand[1]
    return choice[operand[1]][operand[2]] if operand[1] in choice else None


def true_of(condition, choice):
    """True if the condition holds or cannot be tested yet."""
    operator, left, right = condition[0], worth(condition[1], choice), worth(condition[2], choice)
    if left is None or right is None:
        return True
    less, more = before(left, right), before(right, left)
    same = not less and not more
    return {"=": same, "<>": not same, "<": less, "<=": less or same, ">": more, ">=": more or same}[operator]


def slow_problem(tables, query):
    """The first problem of a query, or None: all problems are collected, the first one counts."""
    _, outputs, sources, conditions = query
    missing = [("no table", name) for _, name in sources if name not in tables]
    if missing:
        return missing[0]
    kinds = {(alias, at): kind for alias, name in sources for at, kind in enumerate(tables[name][1])}
    kinds_told = []
    problems = []

    def take(operand):
        if operand[0] == "value":
            kinds_told.append("text" if isinstance(operand[1], str) else "integer")
        else:
            kinds_told.append(kinds.get(operand[1:]))
            problems.extend([("no column",) + operand[1:]] if operand[1:] not in kinds else [])

    for _, left, right in conditions:
        take(left)
        take(right)
        problems.extend([("kinds",)] if kinds_told[-1] != kinds_told[-2] else [])
    for operand in {"count": (), "sum": outputs[1:]}.get(outputs[0], outputs):
        take(operand)
    if outputs[0] == "sum" and kinds_told[-1] != "integer":
        problems.append(("kinds",))
    return problems[0] if problems else None


def slow_choices(tables, query):
    """All choices of rows for which all conditions hold, as dicts with the row for each alias."""
    aliases = [alias for alias, _ in query[2]]
    for rows in itertools.product(*[list(tables[name][3].values()) for _, name in query[2]]):
        choice = dict(zip(aliases, rows))
        if all(true_of(condition, choice) for condition in query[3]):
            yield choice


def slow_answer(tables, query):
    """The answer of a query without a problem, by point [20]."""
    outputs, choices = query[1], list(slow_choices(tables, query))
    if outputs == ("count",):
        return [(len(choices),)]
    if outputs[0] == "sum":
        total = 0
        for choice in choices:
            total += worth(outputs[1], choice)
        return [(total,)]
    return in_order(tuple(worth(operand, choice) for operand in outputs) for choice in choices)


def giver(query, alias, number, earlier):
    """The operand that gives the column at a step behind the earlier sources, or None."""
    for operator, *sides in query[3]:
        for column, other in (sides, sides[::-1]):
            if operator == "=" and column == ("column", alias, number):
                if other[0] == "value" or (other[1] != alias and other[1] in earlier):
                    return other
    return None


def columns_of(tables, query, step):
    """The columns that the way of a step needs."""
    alias, way = step
    count, _, indexes, _ = tables[dict(query[2])[alias]]
    if way == ("table",):
        return []
    return list(range(count) if way[0] == "key" else indexes[way[1]])[:way[-1]]


def slow_plans(tables, query):
    """The plans of a query: all that can be written down, without those whose columns are not given."""
    found = []
    for order in itertools.permutations([alias for alias, _ in query[2]]):
        ways = []
        for alias in order:
            count, _, indexes, _ = tables[dict(query[2])[alias]]
            all_ways = [("table",)] + [("key", many) for many in range(1, count + 1)]
            all_ways += [("index", name, many) for name in sorted(indexes) for many in range(1, len(indexes[name]) + 1)]
            ways.append([(alias, way) for way in all_ways])
        for plan in itertools.product(*ways):
            if all(giver(query, step[0], number, order[:at]) is not None
                   for at, step in enumerate(plan) for number in columns_of(tables, query, step)):
                found.append(plan)
    return found


def slow_chosen(plans_list):
    """The plan of point [23]: the worse ones are left out step by step."""
    tables = [sum(1 for _, way in plan if way == ("table",)) for plan in plans_list]
    left = [plan for plan, many in zip(plans_list, tables) if many == min(tables)]
    counts = [sum(way[-1] for _, way in plan if way[0] != "table") for plan in left]
    return left[counts.index(max(counts))]


def prefix(values):
    """The range of the keys that start with these values."""
    return slow_key(values), slow_key(values) + (3,)


def entry(values):
    """The range that is noted for a key that is got."""
    return slow_key(values), slow_key(values) + (0,)


def first_looks(query):
    """What is looked at before everything else."""
    return [span for _, name in query[2] for span in (entry((0, name)), prefix((1, name)))]


def slow_looks(tables, query, plan):
    """What is looked at by a plan, in order, each once."""
    looks = first_looks(query)

    def go(choice, steps):
        if not steps:
            return
        alias, way = steps[0]
        name = dict(query[2])[alias]
        count, _, indexes, rows = tables[name]
        needed = columns_of(tables, query, steps[0])
        given = tuple(worth(giver(query, alias, number, choice), choice) for number in needed)
        fitting = [row for row in rows.values() if tuple(row[number] for number in needed) == given]
        if way[0] == "index":
            columns = indexes[way[1]]
            looks.append(prefix((3, name, way[1]) + given))
            fitting = in_order(tuple(row[at] for at in columns) + row for row in fitting)
            fitting = [row[len(columns):] for row in fitting]
            looks.extend(entry((2, name) + row[:count]) for row in fitting)
        else:
            looks.append(prefix((2, name) + given))
            fitting = in_order(fitting)
        for row in fitting:
            longer = {**choice, alias: row}
            if all(true_of(condition, longer) for condition in query[3]):
                go(longer, steps[1:])

    go({}, plan)
    return list(dict.fromkeys(looks))


def drawn_worth(draw, kind):
    """A value of a kind, mostly one of few."""
    if kind == "integer":
        return draw.choice(NUMBERS) if draw.randrange(4) else draw.randint(-BOUND, BOUND)
    return draw.choice(WORDS) if draw.randrange(4) else "".join(draw.choice(ALLOWED) for _ in range(draw.randrange(7)))


def drawn_name(draw):
    """A name; the short ones begin longer ones."""
    return draw.choice(("t", "ta", "tab", "table1", "t1", "t0", "z9"))


def drawn_table(draw, most_rows=9):
    """A table with 1 to 4 columns, up to 3 indexes and some rows."""
    kinds = tuple(draw.choice(("integer", "integer", "text")) for _ in range(draw.randrange(1, 5)))
    count = draw.randrange(1, min(len(kinds), 2) + 1)
    indexes = {}
    for _ in range(draw.randrange(4)):
        columns = draw.sample(range(len(kinds)), min(len(kinds), draw.randrange(1, 3)))
        indexes[draw.choice(("i", "ia", "iab", "i1", "z", "index1"))] = tuple(columns)
    rows = {}
    for _ in range(draw.randrange(most_rows + 1)):
        row = tuple(drawn_worth(draw, kind) for kind in kinds)
        rows[row[:count]] = row
    return count, kinds, indexes, rows


def drawn_tables(draw, most_rows=9):
    """Up to four tables."""
    return {drawn_name(draw): drawn_table(draw, most_rows) for _ in range(draw.randrange(1, 5))}


def drawn_operand(draw, tables, sources, kind=None):
    """A value, or a column of a source; with a kind, one of this kind."""
    columns = [("column", alias, at) for alias, name in sources for at, told in enumerate(tables[name][1])
               if kind in (None, told)]
    if not columns or draw.randrange(3) == 0:
        return ("value", drawn_worth(draw, kind or draw.choice(("integer", "text"))))
    return draw.choice(columns)


def kind_of_operand(tables, sources, operand):
    """The kind of an operand without a problem."""
    if operand[0] == "value":
        return "text" if isinstance(operand[1], str) else "integer"
    return tables[dict(sources)[operand[1]]][1][operand[2]]


def drawn_condition(draw, tables, sources):
    """A condition over operands of the same kind, often with the operator =."""
    left = drawn_operand(draw, tables, sources)
    right = drawn_operand(draw, tables, sources, kind_of_operand(tables, sources, left))
    return (draw.choice(OPERATORS + ("=",) * 6), left, right)


def drawn_query(draw, tables):
    """A query without a problem over one or two of the tables."""
    aliases = draw.sample(("a", "b", "t", "s1", "alias6"), draw.randrange(1, 3))
    sources = tuple((alias, draw.choice(sorted(tables))) for alias in aliases)
    conditions = tuple(drawn_condition(draw, tables, sources) for _ in range(draw.choice((0, 1, 1, 2, 2, 3, 4))))
    integers = [("column", alias, at) for alias, name in sources for at, kind in enumerate(tables[name][1])
                if kind == "integer"] + [("value", 7)]
    outputs = tuple(drawn_operand(draw, tables, sources) for _ in range(draw.randrange(1, 4)))
    outputs = draw.choice((outputs, outputs, ("count",), ("sum", draw.choice(integers))))
    return ("select", outputs, sources, conditions)


def spoiled_query(draw, query):
    """The query with drawn operands and sources replaced, so that it may have several problems."""
    _, outputs, sources, conditions = query

    def spoiled(operand):
        way = draw.randrange(8)
        alias = draw.choice(sources)[0]
        if way == 0:
            return ("column", draw.choice((alias, "nobody")), draw.choice((-1, 0, 1, 2, 3, 4, 5)))
        if way == 1:
            return ("value", draw.choice((0, "x")))
        return operand

    if draw.randrange(8) == 0:
        sources = tuple((alias, draw.choice((name, "none", "t"))) for alias, name in sources)
    conditions = tuple((operator, spoiled(left), spoiled(right)) for operator, left, right in conditions)
    if outputs[0] == "sum":
        outputs = ("sum", spoiled(outputs[1]))
    elif outputs != ("count",):
        outputs = tuple(spoiled(operand) for operand in outputs)
    return ("select", outputs, sources, conditions)
