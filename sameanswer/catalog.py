"""Tables, indexes and rows as entries of the map (point [7])."""

from sameanswer.keys import character_of, key_of, prefix_range, value_at

# The first value of a key tells what its entry is: a table, an index, a row, or the entry of a row in an index.
TABLE = 0
INDEX = 1
ROW = 2
INDEX_ENTRY = 3

# The kinds of columns, in the order of their numbers in the entry of a table.
KINDS = ("integer", "text")


def table(look, name):
    """The pair (key count, kinds) of a table, or None if it is not there."""
    value = look.get(table_key(name))
    return None if value is None else (value[0], tuple([KINDS[code] for code in value[1:]]))


def table_key(name):
    """The key of the entry of a table."""
    return key_of((TABLE, name))


def table_value(key_count, kinds):
    """The value of the entry of a table."""
    return (key_count,) + tuple([KINDS.index(kind) for kind in kinds])


def indexes(look, name):
    """A dict with the tuple of the columns for the name of each index of a table, in the order of the names."""
    start = key_of((INDEX, name))
    return {name_behind(start, key): columns for key, columns in look.scan(prefix_range(start))}


def name_behind(start, key):
    """The name whose bytes are those of the key behind its start."""
    # A name may be longer than a value is, so the key need not be a key of values.
    return "".join([character_of(code) for code in key[len(start) + 1:-1]])


def columns_key(name, index):
    """The key of the entry that has the columns of an index."""
    return key_of((INDEX, name, index))


def row_key(name, values):
    """The key of the row with these key values, or for fewer of them what the keys of all such rows start with."""
    return key_of((ROW, name) + values)


def index_key(name, index, values):
    """The key of an entry of an index, or for fewer values what the keys of all such entries start with."""
    return key_of((INDEX_ENTRY, name, index) + values)


def row_key_behind(name, index, columns, key):
    """The key of the row to which an entry of an index belongs; key is that of the entry."""
    at = len(index_key(name, index, ()))
    for _ in columns:
        _, at = value_at(key, at)
    return row_key(name, ()) + key[at:]


def entry_keys(name, shape, found, row):
    """The list of the keys of the entries of a row in the indexes."""
    entries = []
    for index, columns in found.items():
        values = tuple([row[column] for column in columns])
        entries.append(index_key(name, index, values + row[:shape[0]]))
    return entries


def row_changes(name, shape, found, row, present):
    """The list of the changes, not ordered, that put a row and its entries in the indexes in, or remove them."""
    entries = entry_keys(name, shape, found, row)
    changes = [(row_key(name, row[:shape[0]]), row if present else None)]
    return changes + [(key, () if present else None) for key in entries]


def kind_of(value):
    """The kind of a value, or None for what is no value."""
    if isinstance(value, str):
        return "text"
    return "integer" if isinstance(value, int) and not isinstance(value, bool) else None
