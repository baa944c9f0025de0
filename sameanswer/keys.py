"""Values, their keys, ranges of keys and the order of rows (points [4], [5] and [6])."""

BOUND = 10 ** 9
LONGEST_TEXT = 6

# The first byte of an integer, that of a string, and one that is greater than both.
INTEGER = 1
TEXT = 2
BEYOND = 3

# Added to integers, so that negative ones have lower bytes than the others.
SHIFT = 2 ** 39

# What a string may contain, in the order of the codes: all from the space to the tilde but the percent sign.
CHARACTERS = " !\"#$&'()*+,-./0123456789:;<=>?@ABCDEFGHIJKLMNOPQRSTUVWXYZ[\\]^_`abcdefghijklmnopqrstuvwxyz{|}~"
SPACE_CODE = 32
PERCENT_CODE = 37
TILDE_CODE = 126


def key_of(values):
    """The key of a tuple of values."""
    key = []
    for value in values:
        key.extend(text_bytes(value) if isinstance(value, str) else integer_bytes(value))
    return tuple(key)


def integer_bytes(number):
    """The bytes of an integer in a key."""
    shifted = number + SHIFT
    return [INTEGER] + [(shifted >> bits) & 255 for bits in (32, 24, 16, 8, 0)]


def text_bytes(text):
    """The bytes of a string in a key."""
    return [TEXT] + [ord(character) for character in text] + [0]


def values_of(key):
    """The tuple of values that has this key, or None if there is none."""
    values = []
    at = 0
    while at < len(key):
        value, at = value_at(key, at)
        if value is None:
            return None
        values.append(value)
    return tuple(values)


def value_at(key, at):
    """The value whose bytes begin at this place, or None, and the place behind it."""
    if key[at] == INTEGER:
        return integer_of(key[at + 1:at + 6]), at + 6
    if key[at] == TEXT:
        end = at + 1
        while end < len(key) and key[end] != 0:
            end += 1
        if end < len(key):
            return text_of(key[at + 1:end]), end + 1
    return None, at


def integer_of(digits):
    """The integer with these bytes, or None if no value has them."""
    if len(digits) < 5 or min(digits) < 0 or max(digits) > 255:
        return None
    shifted = 0
    for digit in digits:
        shifted = shifted * 256 + digit
    number = shifted - SHIFT
    return number if -BOUND <= number <= BOUND else None


def text_of(codes):
    """The string whose characters have these codes, or None if it is no value."""
    characters = [character_of(code) for code in codes]
    if len(characters) > LONGEST_TEXT or None in characters:
        return None
    return "".join(characters)


def character_of(code):
    """The character with this code, or None if no string may contain it."""
    if code < SPACE_CODE or code > TILDE_CODE or code == PERCENT_CODE:
        return None
    left_out = 1 if code > PERCENT_CODE else 0
    return CHARACTERS[code - SPACE_CODE - left_out]


def prefix_range(key):
    """The range of the keys of all tuples that start with the tuple of this key."""
    return key, key + (BEYOND,)


def is_in(key, span):
    """True if the key is in the range."""
    low, high = span
    return low <= key < high


def meet(first, second):
    """True if some key is in both ranges."""
    low = max(first[0], second[0])
    high = min(first[1], second[1])
    # If the keys from low to high are any at all, low itself is one of them.
    return low < high


def row_order(values):
    """A tuple that is compared with others as the tuple of values is ordered among others."""
    # Python does not compare integers with strings, so the kind of each value goes before it.
    return tuple([(TEXT if isinstance(value, str) else INTEGER, value) for value in values])
