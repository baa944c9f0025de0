"""A second way to run statements on tables that are plain dicts (points [24] and [25]), and drawn statements."""

from samples import BOUND, slow_values
from tables import (
    drawn_condition, drawn_name, drawn_query, drawn_table, drawn_worth, entry, first_looks, map_of, prefix, slow_answer,
    slow_choices, slow_chosen, slow_looks, slow_plans, slow_problem, spoiled_query,
)


def kind_of(value):
    return "text" if isinstance(value, str) else "integer"


def tables_of(present):
    """The tables with this map: the other way round than map_of, which must lead back to it."""
    tables = {}
    for key, value in sorted(present.items()):
        values = slow_values(key)
        if values[0] == 0:
            tables[values[1]] = (value[0], tuple(("integer", "text")[code] for code in value[1:]), {}, {})
        elif values[0] == 1:
            tables[values[1]][2][values[2]] = value
        elif values[0] == 2:
            tables[values[1]][3][values[2:]] = value
    assert map_of(tables) == present
    return tables


def differences(before, after):
    """The changes from one map to another one: a value, or None, for each key whose value differs."""
    return {key: after.get(key) for key in {**before, **after} if before.get(key) != after.get(key)}


def slow_say(tables, statement):
    """(told, the tables afterwards, looks), with told as in a transaction."""
    word, name = statement[0], statement[1]
    if word == "select":
        return slow_query(tables, statement)
    if word in ("delete", "update"):
        return slow_rows(tables, statement)
    looks = [entry((0, name))]
    if word == "create":
        if name in tables:
            return ("problem", ("exists", name)), tables, looks
        kinds, count = statement[2:]
        if len(kinds) not in (1, 2, 3, 4) or count not in (1, 2) or count > len(kinds):
            return ("problem", ("columns",)), tables, looks
        return ("answer", None), {**tables, name: (count, kinds, {}, {})}, looks
    if name not in tables:
        return ("problem", ("no table", name)), tables, looks
    if word == "insert":
        return slow_insert(tables, statement, looks)
    looks.append(prefix((1, name)))
    count, kinds, indexes, rows = tables[name]
    if word == "drop":
        others = {other: table for other, table in tables.items() if other != name}
        return ("answer", None), others, looks + [prefix((2, name))]
    index = statement[2]
    if word == "unindex":
        if index not in indexes:
            return ("problem", ("no index", index)), tables, looks
        others = {other: columns for other, columns in indexes.items() if other != index}
        return ("answer", None), {**tables, name: (count, kinds, others, rows)}, looks + [prefix((3, name, index))]
    if index in indexes:
        return ("problem", ("exists", index)), tables, looks
    columns = statement[3]
    if len(columns) not in (1, 2) or sorted(set(columns) & set(range(len(kinds)))) != sorted(columns):
        return ("problem", ("columns",)), tables, looks
    more = {**indexes, index: columns}
    return ("answer", None), {**tables, name: (count, kinds, more, rows)}, looks + [prefix((2, name))]


def slow_query(tables, query):
    problem = slow_problem(tables, query)
    if problem is not None:
        return ("problem", problem), tables, list(dict.fromkeys(first_looks(query)))
    looks = slow_looks(tables, query, slow_chosen(slow_plans(tables, query)))
    return ("answer", slow_answer(tables, query)), tables, looks


def slow_insert(tables, statement, looks):
    _, name, row = statement
    count, kinds, indexes, rows = tables[name]
    if tuple(kind_of(value) for value in row) != kinds:
        return ("problem", ("kinds",)), tables, looks
    looks = looks + [entry((2, name) + row[:count])]
    if row[:count] in rows:
        return ("problem", ("exists", row[:count])), tables, looks
    after = {**tables, name: (count, kinds, indexes, {**rows, row[:count]: row})}
    return ("answer", None), after, looks + [prefix((1, name))]


def slow_rows(tables, statement):
    """Deletions and updates."""
    name, conditions = statement[1], statement[-1]
    query = ("select", ("count",), ((name, name),), conditions)
    told, _, looks = slow_query(tables, query)
    if told[0] == "problem":
        return told, tables, looks
    count, kinds, indexes, rows = tables[name]
    if statement[0] == "update":
        for number, (way, worth) in statement[2]:
            if number not in range(len(kinds)):
                return ("problem", ("no column", name, number)), tables, looks
            if number in range(count):
                return ("problem", ("key",)), tables, looks
            if kinds[number] != ("integer" if way == "plus" else kind_of(worth)):
                return ("problem", ("kinds",)), tables, looks
    found = [choice[name] for choice in slow_choices(tables, query)]
    after = dict(rows)
    for row in found:
        del after[row[:count]]
        if statement[0] == "update":
            last = dict(statement[2])
            after[row[:count]] = tuple(slow_set(value, last.get(at)) for at, value in enumerate(row))
    return ("answer", len(found)), {**tables, name: (count, kinds, indexes, after)}, looks


def slow_set(value, setting):
    """A value behind the last setting of its column, which may be None."""
    if setting is None:
        return value
    way, worth = setting
    return worth if way == "value" else sorted((-BOUND, value + worth, BOUND))[1]


def drawn_conditions(draw, tables, name):
    """Conditions over a table under its own name."""
    return tuple(drawn_condition(draw, tables, ((name, name),)) for _ in range(draw.choice((0, 1, 1, 1, 2, 3))))


def drawn_row(draw, tables, name):
    """A row for a table."""
    return tuple(drawn_worth(draw, kind) for kind in tables[name][1])


def drawn_settings(draw, table):
    """Settings without a problem, perhaps none."""
    count, kinds, _, _ = table
    settings = []
    for _ in range(draw.randrange(4) if count < len(kinds) else 0):
        number = draw.randrange(count, len(kinds))
        if kinds[number] == "integer" and draw.randrange(2):
            settings.append((number, ("plus", draw.choice((0, 1, -1, 5, BOUND, -BOUND)))))
        else:
            settings.append((number, ("value", drawn_worth(draw, kinds[number]))))
    return tuple(settings)


def drawn_statement(draw, tables):
    """A statement, mostly over tables, columns and indexes that are there; a part of them has a problem."""
    way = draw.randrange(30)
    if way < 2 or not tables:
        count, kinds, _, _ = drawn_table(draw, 0)
        return ("create", drawn_name(draw), kinds, count)
    name = draw.choice(sorted(tables))
    if way == 2:
        return ("drop", name)
    if way < 6:
        columns = draw.sample(range(len(tables[name][1])), min(len(tables[name][1]), draw.randrange(1, 3)))
        return ("index", name, draw.choice(("i", "ia", "z", "i1", "index1")), tuple(columns))
    if way < 8:
        return ("unindex", name, draw.choice(sorted(tables[name][2]) + ["i", "ia"]))
    if way < 18:
        return ("insert", name, drawn_row(draw, tables, name))
    if way < 21:
        return ("delete", name, drawn_conditions(draw, tables, name))
    if way < 25:
        return ("update", name, drawn_settings(draw, tables[name]), drawn_conditions(draw, tables, name))
    return drawn_query(draw, tables)


def spoiled_setting(draw, setting):
    """A setting whose column or value may be another one."""
    number, worth = setting
    number = draw.randrange(-1, 5) if draw.randrange(3) == 0 else number
    return number, draw.choice((worth, ("plus", 1), ("value", "x"), ("value", 1)))


def spoiled_statement(draw, statement):
    """The statement with drawn parts replaced, so that it may have several problems."""
    word = statement[0]
    if word == "select":
        return spoiled_query(draw, statement)
    name = draw.choice((statement[1], statement[1], "t", "none"))
    if word == "create":
        kinds = tuple(draw.choice(("integer", "text")) for _ in range(draw.randrange(6)))
        return (word, name, draw.choice((kinds, statement[2])), draw.randrange(4))
    if word == "index":
        columns = tuple(draw.randrange(-1, 5) for _ in range(draw.randrange(4)))
        return (word, name, statement[2], columns)
    if word == "insert":
        row = list(statement[2])
        row[draw.randrange(len(row)):draw.randrange(len(row) + 1)] = [draw.choice((0, "", "x", 7))]
        return (word, name, tuple(row))
    if word in ("delete", "update"):
        query = spoiled_query(draw, ("select", ("count",), ((statement[1], statement[1]),), statement[-1]))
        more = statement[2:-1]
        if more:
            more = (tuple(spoiled_setting(draw, setting) for setting in more[0]),)
        return (word, name) + more + (query[3],)
    return (word, name) + statement[2:]
