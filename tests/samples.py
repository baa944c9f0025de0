"""Values, keys and bytes that the tests share, and a second way to write and to read what the program does."""

import random

ALLOWED = "".join(chr(code) for code in range(32, 127) if code != 37)
BOUND = 10 ** 9

INTEGERS = (
    -BOUND, -BOUND + 1, -16777217, -65537, -65536, -257, -256, -255, -2, -1, 0, 1, 2, 255, 256, 257, 65535, 65536,
    16777216, BOUND - 1, BOUND,
)
TEXTS = (
    "", " ", "  ", "~", "~~~~~~", "      ", "a", "aa", "ab", "abc", "abcdef", "abcdeg", "b", "A", "Z", "0", "10", "9",
    "$", "&", "\\", "\"", "'", "t", "x y",
)
VALUES = INTEGERS + TEXTS


def drawn_value(draw):
    """One value, from the edges or from all of them."""
    way = draw.randrange(4)
    if way == 0:
        return draw.choice(INTEGERS)
    if way == 1:
        return draw.randint(-BOUND, BOUND)
    if way == 2:
        return draw.choice(TEXTS)
    return "".join(draw.choice(ALLOWED) for _ in range(draw.randrange(7)))


def drawn_values(draw, longest=7):
    """A tuple of 0 to 7 values."""
    return tuple(drawn_value(draw) for _ in range(draw.randrange(longest + 1)))


def drawn_tuples(seed, many):
    """Tuples of values, among them many that begin others."""
    draw = random.Random(seed)
    found = [(), ("",), ("", ""), (0,), (0, 0), (0, ""), ("a",), ("a", 0), ("ab",), (1,), ("1",), (-1, "b"), (-1,)]
    while len(found) < many:
        values = drawn_values(draw)
        found.append(values)
        found.append(values[:draw.randrange(len(values) + 1)])
    return found


def comes_before(first, second):
    """True if the first tuple of values comes before the second one, said as point [4] says it."""
    for one, other in zip(first, second):
        if isinstance(one, str) != isinstance(other, str):
            return isinstance(other, str)
        if one != other:
            return one < other
    return len(first) < len(second)


def slow_key(values):
    """The key of a tuple of values, made by Python's own bytes."""
    data = b""
    for value in values:
        if isinstance(value, str):
            data += b"\x02" + value.encode("ascii") + b"\x00"
        else:
            data += b"\x01" + (value + 2 ** 39).to_bytes(5, "big")
    return tuple(data)


def slow_values(key):
    """The tuple of values of a key, or None: every way to take a value off the front is tried."""
    rest = bytes(key)
    found = []
    while rest:
        size = 6 if rest[0] == 1 else rest.find(b"\x00") + 1
        part = rest[:size]
        if rest[0] == 1 and len(part) == 6:
            value = int.from_bytes(part[1:], "big") - 2 ** 39
            right = abs(value) <= BOUND
        elif rest[0] == 2 and size >= 2:
            value = part[1:-1].decode("latin-1")
            right = len(value) <= 6 and all(character in ALLOWED for character in value)
        else:
            right = False
        if not right:
            return None
        found.append(value)
        rest = rest[size:]
    return tuple(found)


def slow_page(page):
    """The bytes of a page, or None, written with Python's own bytes."""
    kind, parts = page
    data = (b"\x00" if kind == "leaf" else b"\x01") + len(parts).to_bytes(2, "big")[1:]
    for part in parts:
        if kind == "leaf":
            if len(part[0]) > 255 or len(slow_key(part[1])) > 255:
                return None
            value = bytes(slow_key(part[1]))
            data += bytes([len(part[0])]) + bytes(part[0]) + bytes([len(value)]) + value
        else:
            if len(part[0]) > 255:
                return None
            data += part[1].to_bytes(2, "big") + bytes([len(part[0])]) + bytes(part[0])
    return list(data.ljust(256, b"\x00")) if len(data) <= 256 else None


def slow_read(data):
    """The page with these bytes, or None: taken from the front whatever it is, and then written again."""
    rest = list(data)
    if len(rest) != 256 or rest[0] > 1:
        return None
    leaf = rest.pop(0) == 0
    parts = []
    try:
        for _ in range(rest.pop(0)):
            number = 0 if leaf else rest.pop(0) * 256 + rest.pop(0)
            key = tuple(rest.pop(0) for _ in range(rest.pop(0)))
            value = slow_values([rest.pop(0) for _ in range(rest.pop(0))]) if leaf else number
            parts.append((key, value))
    except IndexError:
        return None
    if any(rest) or any(part[1] is None for part in parts):
        return None
    if not leaf and parts and parts[0][0]:
        return None
    return ("leaf" if leaf else "inner", tuple(parts))


def drawn_bytes(draw, longest):
    """Any bytes, as a key."""
    return tuple(draw.randrange(256) for _ in range(draw.randrange(longest + 1)))


def drawn_page(draw):
    """A page that may be too large, with keys of values or any bytes as keys."""
    many = draw.choice((0, 1, 2, 3, 4, 5, 8, 12, 20, 40))
    longest = draw.choice((0, 3, 9, 20, 60, 90))
    keys = [drawn_bytes(draw, longest) if draw.randrange(3) else slow_key(drawn_values(draw, 3)) for _ in range(many)]
    if draw.randrange(2):
        return ("leaf", tuple((key, drawn_values(draw, 4)) for key in keys))
    return ("inner", tuple((key if at else (), draw.randrange(65536)) for at, key in enumerate(keys)))
