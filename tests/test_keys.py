"""Points [4], [5] and [6]: values, their keys, their order, and ranges of keys."""

import random
import unittest

from samples import (
    ALLOWED, BOUND, INTEGERS, TEXTS, VALUES, comes_before, drawn_bytes, drawn_tuples, drawn_values, slow_key,
    slow_values,
)
from sameanswer.keys import is_in, key_of, meet, prefix_range, row_order, values_of

ZERO = (1, 128, 0, 0, 0, 0)


class KeyBytes(unittest.TestCase):
    def test_the_examples_of_the_document(self):
        self.assertEqual(key_of((0, "t")), (1, 128, 0, 0, 0, 0, 2, 116, 0))
        self.assertEqual(prefix_range(key_of(("a",))), ((2, 97, 0), (2, 97, 0, 3)))

    def test_no_values(self):
        self.assertEqual(key_of(()), ())

    def test_integers_byte_by_byte(self):
        self.assertEqual(key_of((1,)), (1, 128, 0, 0, 0, 1))
        self.assertEqual(key_of((-1,)), (1, 127, 255, 255, 255, 255))
        self.assertEqual(key_of((256,)), (1, 128, 0, 0, 1, 0))
        self.assertEqual(key_of((10 ** 9,)), (1, 128, 59, 154, 202, 0))
        self.assertEqual(key_of((-(10 ** 9),)), (1, 127, 196, 101, 54, 0))

    def test_strings_byte_by_byte(self):
        self.assertEqual(key_of(("",)), (2, 0))
        self.assertEqual(key_of(("~ A",)), (2, 126, 32, 65, 0))
        self.assertEqual(key_of(("abcdef",)), (2, 97, 98, 99, 100, 101, 102, 0))

    def test_every_allowed_character(self):
        for character in ALLOWED:
            self.assertEqual(key_of((character,)), (2, ord(character), 0))

    def test_values_one_after_another(self):
        self.assertEqual(key_of(("", 0, "a", "")), (2, 0) + ZERO + (2, 97, 0, 2, 0))

    def test_against_another_writer(self):
        for values in drawn_tuples(1, 2000):
            self.assertEqual(key_of(values), slow_key(values))
            self.assertIsInstance(key_of(values), tuple)


class KeyOrder(unittest.TestCase):
    def test_order_of_single_values(self):
        for one in VALUES:
            for other in VALUES:
                self.assertEqual(key_of((one,)) < key_of((other,)), comes_before((one,), (other,)), (one, other))

    def test_order_of_tuples(self):
        found = drawn_tuples(2, 300)
        for one in found:
            for other in found:
                self.assertEqual(key_of(one) < key_of(other), comes_before(one, other), (one, other))

    def test_different_tuples_have_different_keys(self):
        found = drawn_tuples(3, 4000)
        self.assertEqual(len({key_of(values) for values in found}), len(set(found)))
        self.assertNotEqual(key_of((1,)), key_of(("1",)))
        self.assertNotEqual(key_of(("a", "b")), key_of(("ab",)))

    def test_a_key_starts_with_the_key_of_each_tuple_that_its_tuple_starts_with(self):
        for values in drawn_tuples(4, 500):
            for size in range(len(values) + 1):
                start = key_of(values[:size])
                self.assertEqual(key_of(values)[:len(start)], start)


class ValuesOfKeys(unittest.TestCase):
    def check(self, key):
        """What the program tells of a key must be what the other reader tells."""
        expected = slow_values(key)
        found = values_of(key)
        self.assertEqual(found, expected, key)
        self.assertEqual([isinstance(value, str) for value in found or ()],
                         [isinstance(value, str) for value in expected or ()], key)

    def test_every_tuple_comes_back(self):
        for values in [(value,) for value in VALUES] + drawn_tuples(5, 3000):
            self.assertEqual(values_of(key_of(values)), values)
        for character in ALLOWED:
            self.assertEqual(values_of((2, ord(character), 0)), (character,))

    def test_the_empty_key_is_that_of_the_empty_tuple(self):
        self.assertEqual(values_of(()), ())

    def test_integers_beyond_the_bounds(self):
        for number in (BOUND, -BOUND):
            self.assertEqual(values_of(slow_key((number,))), (number,))
        for number in (BOUND + 1, -BOUND - 1, 2 ** 39 - 1, -(2 ** 39), 2 ** 31, -(2 ** 32)):
            self.assertIsNone(values_of(slow_key((number,))))
            self.assertIsNone(values_of(slow_key(("a", number, 0))))
        self.assertIsNone(values_of((1, 0, 0, 0, 0, 0)))
        self.assertIsNone(values_of((1, 255, 255, 255, 255, 255)))

    def test_characters_that_are_not_allowed(self):
        allowed = [ord(character) for character in ALLOWED]
        for code in range(1, 256):
            expected = (chr(code),) if code in allowed else None
            self.assertEqual(values_of((2, code, 0)), expected, code)
            self.assertEqual(values_of((2, 97, code, 97, 0)) is None, code not in allowed, code)

    def test_the_percent_sign_and_its_neighbours(self):
        self.assertIsNone(values_of((2, 37, 0)))
        self.assertEqual(values_of((2, 36, 38, 0)), ("$&",))

    def test_long_strings(self):
        self.assertEqual(values_of((2,) + (97,) * 6 + (0,)), ("aaaaaa",))
        self.assertIsNone(values_of((2,) + (97,) * 7 + (0,)))
        self.assertIsNone(values_of((2,) + (97,) * 60 + (0,)))

    def test_a_string_without_its_zero(self):
        self.assertIsNone(values_of((2,)))
        self.assertIsNone(values_of((2, 97)))
        self.assertIsNone(values_of((2, 0, 2, 97, 98)))
        self.assertIsNone(values_of((2, 97) + ZERO[:2]))

    def test_any_other_first_byte(self):
        for first in range(256):
            if first not in (1, 2):
                self.assertIsNone(values_of((first,)))
                self.assertIsNone(values_of((first,) + ZERO[1:]))
                self.assertIsNone(values_of((first, 97, 0)))
                self.assertIsNone(values_of(ZERO + (first, 97, 0)))

    def test_keys_cut_off(self):
        for values in drawn_tuples(6, 300):
            key = key_of(values)
            whole = {len(key_of(values[:size])) for size in range(len(values) + 1)}
            for size in range(len(key) + 1):
                self.assertEqual(values_of(key[:size]) is not None, size in whole, key[:size])
                self.check(key[:size])

    def test_one_byte_changed_left_out_or_put_in(self):
        draw = random.Random(7)
        for values in drawn_tuples(7, 150):
            key = slow_key(values)
            for at in range(len(key)):
                self.check(key[:at] + key[at + 1:])
                for byte in (0, 1, 2, 3, 31, 32, 37, 97, 126, 127, 128, 255, draw.randrange(256)):
                    self.check(key[:at] + (byte,) + key[at + 1:])
                    self.check(key[:at] + (byte,) + key[at:])
                    self.check(key + (byte,))

    def test_drawn_bytes(self):
        draw = random.Random(8)
        for _ in range(5000):
            self.check(drawn_bytes(draw, 14))
            self.check(tuple(draw.choice((0, 1, 2, 3, 97, 127, 128)) for _ in range(draw.randrange(12))))

    def test_numbers_that_are_no_bytes(self):
        self.assertIsNone(values_of((1, 128, 0, 0, 0, 256)))
        self.assertIsNone(values_of((1, 128, 0, 0, 1, -1)))
        self.assertIsNone(values_of((2, 353, 0)))
        self.assertIsNone(values_of((-1,)))


class Ranges(unittest.TestCase):
    def test_prefix_range(self):
        self.assertEqual(prefix_range(()), ((), (3,)))
        for values in drawn_tuples(9, 200):
            self.assertEqual(prefix_range(key_of(values)), (key_of(values), key_of(values) + (3,)))

    def test_a_prefix_range_has_the_keys_of_the_tuples_that_start_so(self):
        found = drawn_tuples(10, 250) + [("a",), ("a", ""), ("a", BOUND), ("a", "~~~~~~"), ("aa",), (BOUND, 0)]
        for start in found:
            span = prefix_range(key_of(start))
            for values in found:
                self.assertIs(is_in(key_of(values), span), values[:len(start)] == start, (start, values))

    def test_both_ends(self):
        span = ((2, 97, 0), (2, 98, 0))
        self.assertIs(is_in((2, 97, 0), span), True)
        self.assertIs(is_in((2, 97, 0, 0), span), True)
        self.assertIs(is_in((2, 97), span), False)
        self.assertIs(is_in((2, 98), span), True)
        self.assertIs(is_in((2, 97, 255), span), True)
        self.assertIs(is_in((2, 98, 0), span), False)
        self.assertIs(is_in((2, 98, 0, 0), span), False)
        self.assertIs(is_in((), span), False)

    def test_the_range_of_a_single_key(self):
        span = (ZERO, ZERO + (0,))
        self.assertIs(is_in(ZERO, span), True)
        self.assertIs(is_in(ZERO + (0,), span), False)
        self.assertIs(is_in(ZERO[:-1], span), False)

    def test_empty_and_turned_ranges_have_no_key(self):
        for span in (((), ()), ((3,), (3,)), ((3,), ()), ((2, 98), (2, 97)), ((1, 0), (1,))):
            for key in ((), (1,), (1, 0), (2, 97), (2, 97, 0), (2, 98), (3,)):
                self.assertIs(is_in(key, span), False)

    def test_ranges_that_meet(self):
        one = ((1, 5), (1, 9))
        for other in (one, ((1, 8), (1, 12)), ((1,), (1, 6)), ((1, 6), (1, 7)), ((), (3,)), ((1, 8, 255), (1, 9))):
            self.assertIs(meet(one, other), True, other)
            self.assertIs(meet(other, one), True, other)

    def test_ranges_that_do_not_meet(self):
        one = ((1, 5), (1, 9))
        for other in (
            ((1, 9), (1, 12)), ((1,), (1, 5)), ((2,), (3,)), ((), (1,)), ((1, 6), (1, 6)), ((1, 5), (1, 5)),
            ((1, 7), (1, 6)), ((3,), ()), ((1, 12), (1,)), ((1, 9), (1, 5)),
        ):
            self.assertIs(meet(one, other), False, other)
            self.assertIs(meet(other, one), False, other)

    def test_empty_ranges_meet_nothing(self):
        for span in (((), ()), ((1,), (1,)), ((3,), ())):
            self.assertIs(meet(span, span), False)
            self.assertIs(meet(span, ((), (3,))), False)
            self.assertIs(meet(((), (3,)), span), False)

    def test_meet_against_a_search_of_all_keys(self):
        bounds = [()] + [(a,) for a in (0, 1, 2)] + [(a, b) for a in (0, 1, 2) for b in (0, 1, 2)]
        keys = bounds + [(a, b, 0) for a in (0, 1, 2) for b in (0, 1, 2)]
        spans = [(low, high) for low in bounds for high in bounds]
        held = {span: {key for key in keys if span[0] <= key < span[1]} for span in spans}
        for one in spans:
            self.assertEqual({key for key in keys if is_in(key, one)}, held[one])
            for other in spans:
                self.assertIs(meet(one, other), bool(held[one] & held[other]), (one, other))


class RowOrder(unittest.TestCase):
    def test_single_values(self):
        for one in VALUES:
            for other in VALUES:
                before = row_order((one,)) < row_order((other,))
                self.assertIs(before, comes_before((one,), (other,)), (one, other))

    def test_integers_at_the_bounds_and_sums_beyond_them(self):
        numbers = [-(10 ** 14), -(10 ** 9), -(10 ** 9) + 1, -1, 0, 1, 10 ** 9 - 1, 10 ** 9, 10 ** 14]
        self.assertEqual(sorted(numbers[::-1], key=lambda number: row_order((number,))), numbers)

    def test_integers_before_strings(self):
        for number in INTEGERS:
            for text in TEXTS:
                self.assertIs(row_order((number,)) < row_order((text,)), True)
                self.assertIs(row_order((text,)) < row_order((number,)), False)

    def test_strings_in_the_order_of_their_characters(self):
        texts = ["", " ", "  ", " a", "$", "&", "0", "10", "9", "A", "Z", "a", "a ", "aa", "ab", "b", "~", "~~~~~~"]
        self.assertEqual(sorted(texts[::-1], key=lambda text: row_order((text,))), texts)

    def test_tuples_of_which_one_begins_another(self):
        rows = [(), (0,), (0, -5), (0, -5, ""), (0, ""), (0, "", 7), ("",), ("", 0), ("", "a"), ("", "a", "a")]
        self.assertEqual(sorted(rows[::-1], key=row_order), rows)

    def test_all_pairs_of_drawn_tuples(self):
        found = drawn_tuples(11, 300)
        for one in found:
            for other in found:
                self.assertIs(row_order(one) < row_order(other), comes_before(one, other), (one, other))
                self.assertIs(row_order(one) == row_order(other), one == other, (one, other))

    def test_it_is_a_tuple(self):
        for values in drawn_tuples(12, 100):
            self.assertIsInstance(row_order(values), tuple)


class Arguments(unittest.TestCase):
    """Point [3]: nothing that is passed is modified, and equal calls tell equal things."""

    def test_what_is_passed_stays(self):
        draw = random.Random(13)
        for _ in range(200):
            values = drawn_values(draw)
            key, span = slow_key(values), (slow_key(values), slow_key(values) + (3,))
            before = repr((values, key, span))
            for _ in range(2):
                self.assertEqual(key_of(values), key)
                self.assertEqual(values_of(key), values)
                self.assertEqual(prefix_range(key), span)
                self.assertEqual(row_order(values), row_order(values))
                self.assertIs(is_in(key, span), True)
                self.assertIs(meet(span, span), True)
            self.assertEqual(repr((values, key, span)), before)


if __name__ == "__main__":
    unittest.main()
