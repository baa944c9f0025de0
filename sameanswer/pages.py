"""Pages and the bytes that they are written as (points [8] and [9])."""

from sameanswer.errors import DamagedData
from sameanswer.keys import key_of, values_of

PAGE_SIZE = 256
LEAF = 0
INNER = 1


def write_page(page):
    """The list of the 256 bytes of a page, or None if it does not fit."""
    kind, parts = page
    data = leaf_bytes(parts) if kind == "leaf" else inner_bytes(parts)
    # What has more than 255 in a byte is a page number that does not fit into two bytes.
    if len(data) > PAGE_SIZE or max(data) > 255:
        return None
    return data + [0] * (PAGE_SIZE - len(data))


def leaf_bytes(entries):
    """The bytes of a leaf without the zeros at its end, however many they are."""
    data = [LEAF, len(entries)]
    for key, value in entries:
        data.extend(counted(key))
        data.extend(counted(key_of(value)))
    return data


def inner_bytes(children):
    """The bytes of an inner page without the zeros at its end, however many they are."""
    data = [INNER, len(children)]
    for place, (first_key, number) in enumerate(children):
        data.extend([number >> 8, number & 255])
        data.extend(counted(first_key if place > 0 else ()))
    return data


def counted(part):
    """The number of these bytes, and the bytes."""
    return [len(part)] + list(part)


def read_page(data):
    """The page that is written as these bytes. Raises DamagedData if there is none."""
    if len(data) != PAGE_SIZE or min(data) < 0 or max(data) > 255:
        raise DamagedData("a page has 256 bytes")
    if data[0] == LEAF:
        kind = "leaf"
        parts, end = read_entries(data)
    elif data[0] == INNER:
        kind = "inner"
        parts, end = read_children(data)
    else:
        raise DamagedData("a page begins with 0 or 1")
    if any(data[end:]):
        raise DamagedData("a page ends with zeros")
    return kind, parts


def read_entries(data):
    """The entries of a leaf, and the place behind them."""
    entries = []
    at = 2
    for _ in range(data[1]):
        key, at = read_counted(data, at)
        value_key, at = read_counted(data, at)
        value = values_of(value_key)
        if value is None:
            raise DamagedData("the value of an entry is no tuple of values")
        entries.append((key, value))
    return tuple(entries), at


def read_children(data):
    """The children of an inner page, and the place behind them."""
    children = []
    at = 2
    for _ in range(data[1]):
        first_key, end = read_counted(data, at + 2)
        if first_key and not children:
            raise DamagedData("the first key of the first child is not empty")
        children.append((first_key, data[at] * 256 + data[at + 1]))
        at = end
    return tuple(children), at


def read_counted(data, at):
    """The bytes behind their number, which is at this place, and the place behind them."""
    if at >= len(data) or at + 1 + data[at] > len(data):
        raise DamagedData("a page ends before its last entry or child")
    end = at + 1 + data[at]
    return tuple(data[at + 1:end]), end
