"""Statements: what they answer, what they change and what they look at (points [24] and [25])."""

from sameanswer.catalog import (
    columns_key, entry_keys, index_key, indexes, kind_of, row_changes, row_key, table, table_key, table_value,
)
from sameanswer.errors import Refused
from sameanswer.keys import BOUND, prefix_range
from sameanswer.queries import answer, matches

MOST_COLUMNS = 4
MOST_KEY_COLUMNS = 2
MOST_INDEX_COLUMNS = 2


def run_query(look, statement):
    """The answer of a query, which changes nothing."""
    return answer(look, statement), {}


def create_table(look, statement):
    """A table comes."""
    _, name, kinds, count = statement
    if table(look, name) is not None:
        raise Refused(("exists", name))
    if not 1 <= len(kinds) <= MOST_COLUMNS or not 1 <= count <= min(len(kinds), MOST_KEY_COLUMNS):
        raise Refused(("columns",))
    return None, {table_key(name): table_value(count, kinds)}


def drop_table(look, statement):
    """A table goes, with its indexes and rows."""
    _, name = statement
    shape = shape_of(look, name)
    found = indexes(look, name)
    changes = {table_key(name): None}
    for index in found:
        changes[columns_key(name, index)] = None
    for row in all_rows(look, name):
        for key, value in row_changes(name, shape, found, row, False):
            changes[key] = value
    return None, changes


def shape_of(look, name):
    """The key count and the kinds of a table. Raises Refused if it is not there."""
    shape = table(look, name)
    if shape is None:
        raise Refused(("no table", name))
    return shape


def all_rows(look, name):
    """The list of all rows of a table."""
    return [row for _, row in look.scan(prefix_range(row_key(name, ())))]


def create_index(look, statement):
    """An index comes, with the entries of all rows."""
    _, name, index, columns = statement
    shape = shape_of(look, name)
    if index in indexes(look, name):
        raise Refused(("exists", index))
    if not are_index_columns(columns, shape):
        raise Refused(("columns",))
    changes = {columns_key(name, index): columns}
    for row in all_rows(look, name):
        for key in entry_keys(name, shape, {index: columns}, row):
            changes[key] = ()
    return None, changes


def are_index_columns(columns, shape):
    """True if these are as many different numbers of columns of the table as an index may have."""
    if not 1 <= len(columns) <= MOST_INDEX_COLUMNS or len(set(columns)) < len(columns):
        return False
    return all([has_column(shape, number) for number in columns])


def has_column(shape, number):
    """True if the table has a column of this number."""
    return 0 <= number < len(shape[1])


def drop_index(look, statement):
    """An index goes, with its entries."""
    _, name, index = statement
    shape_of(look, name)
    if index not in indexes(look, name):
        raise Refused(("no index", index))
    changes = {columns_key(name, index): None}
    for key, _ in look.scan(prefix_range(index_key(name, index, ()))):
        changes[key] = None
    return None, changes


def insert_row(look, statement):
    """A row comes."""
    _, name, row = statement
    shape = shape_of(look, name)
    count, kinds = shape
    if [kind_of(value) for value in row] != list(kinds):
        raise Refused(("kinds",))
    if look.get(row_key(name, row[:count])) is not None:
        raise Refused(("exists", row[:count]))
    found = indexes(look, name)
    return None, {key: value for key, value in row_changes(name, shape, found, row, True)}


def delete_rows(look, statement):
    """The rows go for which all conditions hold."""
    _, name, conditions = statement
    shape, found, rows = matching_rows(look, name, conditions)
    changes = {}
    for row in rows:
        for key, value in row_changes(name, shape, found, row, False):
            changes[key] = value
    return len(rows), changes


def update_rows(look, statement):
    """Columns are set in the rows for which all conditions hold."""
    _, name, settings, conditions = statement
    shape, found, rows = matching_rows(look, name, conditions)
    check_settings(name, shape, settings)
    changes = {}
    for row in rows:
        for key, value in replacement(name, shape, found, row, row_set(row, settings)):
            changes[key] = value
    return len(rows), changes


def matching_rows(look, name, conditions):
    """The shape and the indexes of a table, and the list of its rows for which all conditions hold."""
    sources, choices = matches(look, ("select", ("count",), ((name, name),), conditions))
    _, shape, found = sources[name]
    return shape, found, [choice[name] for choice in choices]


def check_settings(name, shape, settings):
    """Raises Refused with the first problem of the settings, if they have one."""
    count, kinds = shape
    for number, (_, worth) in settings:
        if not has_column(shape, number):
            raise Refused(("no column", name, number))
        if number < count:
            raise Refused(("key",))
        # What is added is an integer, so its kind is that of the columns to which it can be added.
        if kind_of(worth) != kinds[number]:
            raise Refused(("kinds",))


def row_set(row, settings):
    """The row with the settings, each of which is applied to the row as it was."""
    values = list(row)
    for number, (word, worth) in settings:
        values[number] = worth if word == "value" else max(-BOUND, min(BOUND, row[number] + worth))
    return tuple(values)


def replacement(name, shape, found, row, new_row):
    """The list of the changes that put the new row in the place of the row that has the same key."""
    before = {key: value for key, value in row_changes(name, shape, found, row, True)}
    after = {key: value for key, value in row_changes(name, shape, found, new_row, True)}
    gone = [(key, None) for key in before if key not in after]
    return gone + [(key, after[key]) for key in after if before.get(key) != after[key]]


ACTIONS = {
    "select": run_query, "create": create_table, "drop": drop_table, "index": create_index, "unindex": drop_index,
    "insert": insert_row, "delete": delete_rows, "update": update_rows,
}


def say(look, statement):
    """The pair of the answer of a statement and a dict of its changes. Raises Refused."""
    action = ACTIONS[statement[0]]
    return action(look, statement)
