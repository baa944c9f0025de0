"""Points [8] and [9]: the bytes of pages, what fits, and what is no page."""

import random
import unittest

from samples import BOUND, drawn_bytes, drawn_page, slow_key, slow_page, slow_read
from sameanswer.errors import DamagedData
from sameanswer.keys import key_of
from sameanswer.pages import read_page, write_page

SMALL_LEAF = ("leaf", (((2, 97, 0), ("x", -1)), ((2, 98, 0), ())))
SMALL_LEAF_BYTES = [0, 2, 3, 2, 97, 0, 9, 2, 120, 0, 1, 127, 255, 255, 255, 255, 3, 2, 98, 0, 0]
SMALL_INNER = ("inner", (((), 2), ((2, 98, 0), 513), ((2, 99, 0), 65535)))
SMALL_INNER_BYTES = [1, 3, 0, 2, 0, 2, 1, 3, 2, 98, 0, 255, 255, 3, 2, 99, 0]


def filled(data):
    """The bytes with zeros up to 256."""
    return data + [0] * (256 - len(data))


def leaf_of_size(size):
    """A leaf whose bytes, without the zeros behind, are so many (from 60 on)."""
    return ("leaf", (((7,) * 20, (0, "a")), ((8,) * (size - 41), (-1,))))


def inner_of_size(size):
    """An inner page whose bytes, without the zeros behind, are so many (from 20 on)."""
    return ("inner", (((), 2), ((5,) * (size - 8), 3)))


def full_pages():
    """Pages of all sorts, up to exactly 256 bytes."""
    many = tuple(((1, at), (at,)) for at in range(25))
    rows = tuple((key_of((2, "t", at)), (at, "abcdef")) for at in range(5))
    children = tuple((key_of((2, "t", at)) if at else (), at + 250) for at in range(11))
    return [
        ("leaf", ()), ("inner", ()), SMALL_LEAF, SMALL_INNER, ("leaf", many[:20]), ("leaf", rows),
        ("leaf", (((), ()),) * 127), ("inner", (((), 5),) * 84), ("inner", children), leaf_of_size(256),
        inner_of_size(256), ("inner", (((), 0),)), ("leaf", (((), ("",)),)),
    ]


class WrittenPages(unittest.TestCase):
    def test_leaves_byte_by_byte(self):
        self.assertEqual(write_page(SMALL_LEAF), filled(SMALL_LEAF_BYTES))
        self.assertEqual(write_page(("leaf", ())), [0] * 256)
        self.assertEqual(write_page(("leaf", (((), ()),))), filled([0, 1, 0, 0]))
        self.assertEqual(write_page(("leaf", (((9,), (0,)),))), filled([0, 1, 1, 9, 6, 1, 128, 0, 0, 0, 0]))

    def test_inner_pages_byte_by_byte(self):
        self.assertEqual(write_page(SMALL_INNER), filled(SMALL_INNER_BYTES))
        self.assertEqual(write_page(("inner", ())), filled([1, 0]))
        self.assertEqual(write_page(("inner", (((), 599),))), filled([1, 1, 2, 87, 0]))

    def test_page_numbers_have_their_most_significant_byte_first(self):
        for number in (0, 1, 2, 255, 256, 257, 258, 599, 65279, 65280, 65535):
            page = ("inner", (((), number), ((4,), number)))
            expected = [1, 2, number // 256, number % 256, 0, number // 256, number % 256, 1, 4]
            self.assertEqual(write_page(page), filled(expected))
            self.assertEqual(read_page(filled(expected)), page)

    def test_a_page_number_of_three_bytes_does_not_fit(self):
        self.assertIsNone(write_page(("inner", (((), 65536),))))

    def test_the_first_child_is_written_with_the_empty_key(self):
        self.assertEqual(write_page(("inner", (((2, 0), 7), ((2, 1), 8)))), filled([1, 2, 0, 7, 0, 0, 8, 2, 2, 1]))

    def test_leaves_of_exactly_256_bytes_and_one_over(self):
        for size in (254, 255, 256):
            data = write_page(leaf_of_size(size))
            self.assertEqual(len(data), 256)
            self.assertEqual(data, slow_page(leaf_of_size(size)))
            self.assertEqual(data[size - 1:], [255] + [0] * (256 - size))
        for size in (257, 258, 300, 600):
            self.assertIsNone(write_page(leaf_of_size(size)))

    def test_inner_pages_of_exactly_256_bytes_and_one_over(self):
        for size in (254, 255, 256):
            data = write_page(inner_of_size(size))
            self.assertEqual(data, slow_page(inner_of_size(size)))
            self.assertEqual(data[size - 1:], [5] + [0] * (256 - size))
        for size in (257, 258, 300, 600):
            self.assertIsNone(write_page(inner_of_size(size)))

    def test_many_small_parts(self):
        self.assertEqual(write_page(("leaf", (((), ()),) * 127)), filled([0, 127]))
        self.assertIsNone(write_page(("leaf", (((), ()),) * 128)))
        self.assertIsNone(write_page(("leaf", (((), ()),) * 300)))
        self.assertEqual(write_page(("inner", (((), 1),) * 84)), filled([1, 84] + [0, 1, 0] * 84))
        self.assertIsNone(write_page(("inner", (((), 1),) * 85)))
        self.assertIsNone(write_page(("inner", (((), 1),) * 256)))

    def test_keys_and_values_longer_than_those_of_the_program(self):
        longest_key = ("leaf", ((tuple(range(252)), ()),))
        self.assertEqual(write_page(longest_key), [0, 1, 252] + list(range(252)) + [0])
        self.assertEqual(read_page(write_page(longest_key)), longest_key)
        self.assertIsNone(write_page(("leaf", (((3,) * 253, ()),))))
        self.assertIsNone(write_page(("leaf", (((3,) * 256, ()),))))
        longest_value = ("leaf", (((), (1,) * 42),))
        self.assertEqual(write_page(longest_value), [0, 1, 0, 252] + [1, 128, 0, 0, 0, 1] * 42)
        self.assertEqual(read_page(write_page(longest_value)), longest_value)
        self.assertIsNone(write_page(("leaf", (((), (1,) * 43),))))

    def test_drawn_pages_against_another_writer(self):
        draw = random.Random(21)
        sizes = [0, 0]
        for _ in range(3000):
            page = drawn_page(draw)
            data = write_page(page)
            self.assertEqual(data, slow_page(page))
            sizes[data is None] += 1
        self.assertGreater(min(sizes), 300)

    def test_the_bytes_are_a_list_of_integers(self):
        for page in full_pages():
            data = write_page(page)
            self.assertIsInstance(data, list)
            self.assertEqual({byte.__class__ for byte in data}, {int})


class WhatFits(unittest.TestCase):
    """Point [9]: a key of 60 bytes and a value of 40 are the longest."""

    def test_two_of_the_longest_entries_fit_into_a_leaf(self):
        value = (1,) * 4 + ("abcdef",) * 2
        self.assertEqual(len(key_of(value)), 40)
        page = ("leaf", (((1,) * 60, value), ((2,) * 60, value)))
        self.assertEqual(write_page(page), slow_page(page))
        self.assertEqual(read_page(write_page(page)), page)
        self.assertIsNone(write_page(("leaf", page[1] + (((3,) * 60, value),))))

    def test_four_children_with_the_longest_keys_fit_into_an_inner_page(self):
        page = ("inner", tuple(((at,) * 60 if at else (), 596 + at) for at in range(4)))
        self.assertEqual(write_page(page), slow_page(page))
        self.assertEqual(read_page(write_page(page)), page)
        self.assertIsNotNone(write_page(("inner", page[1] + (((4,) * 57, 600),))))
        self.assertIsNone(write_page(("inner", page[1] + (((4,) * 60, 600),))))

    def test_the_longest_row_of_a_table_fits(self):
        key = key_of((2, "tttttt", "abcdef", "abcdef"))
        entry = key_of((3, "tttttt", "iiiiii", "abcdef", "abcdef", "abcdef", "abcdef"))
        row = ("abcdef",) * 4
        self.assertLessEqual(max(len(key), len(entry)), 60)
        self.assertLessEqual(len(key_of(row)), 40)
        self.assertIsNotNone(write_page(("leaf", ((key, row), (entry, ())))))


class ReadPages(unittest.TestCase):
    def check(self, data):
        """The page must be what the other reader tells, or there must be the error."""
        expected = slow_read(data)
        if expected is None:
            with self.assertRaises(DamagedData):
                read_page(data)
        else:
            self.assertEqual(read_page(data), expected)
            self.assertEqual(write_page(expected), data)
        return expected is not None

    def damaged(self, data):
        with self.assertRaises(DamagedData):
            read_page(data)

    def test_pages_byte_by_byte(self):
        self.assertEqual(read_page(filled(SMALL_LEAF_BYTES)), SMALL_LEAF)
        self.assertEqual(read_page(filled(SMALL_INNER_BYTES)), SMALL_INNER)
        self.assertEqual(read_page([0] * 256), ("leaf", ()))
        self.assertEqual(read_page(filled([1])), ("inner", ()))

    def test_each_written_page_comes_back(self):
        for page in full_pages():
            self.assertEqual(read_page(write_page(page)), page)

    def test_drawn_pages_come_back(self):
        draw = random.Random(22)
        for _ in range(3000):
            page = drawn_page(draw)
            if write_page(page) is not None:
                self.assertEqual(read_page(write_page(page)), page)

    def test_pages_are_tuples(self):
        for page in full_pages():
            kind, parts = read_page(write_page(page))
            self.assertIsInstance(parts, tuple)
            for key, told in parts:
                self.assertIsInstance(key, tuple)
                self.assertIsInstance(told, tuple if kind == "leaf" else int)

    def test_keys_may_be_any_bytes_in_any_order(self):
        page = ("leaf", (((255, 0), ()), ((), (1,)), ((255, 0), ()), ((7,) * 100, ())))
        self.assertEqual(read_page(write_page(page)), page)
        page = ("inner", (((), 9), ((200,) * 90, 9), ((), 2), ((1,), 0)))
        self.assertEqual(read_page(write_page(page)), page)

    def test_fewer_or_more_bytes(self):
        for page in full_pages():
            data = write_page(page)
            for wrong in (data[:-1], data[:255], data + [0], data + data, data[:2], data[:1], [], data[1:]):
                self.damaged(wrong)

    def test_unknown_first_byte(self):
        for page in full_pages():
            data = write_page(page)
            for first in range(2, 256):
                self.damaged([first] + data[1:])

    def test_counts_and_lengths_beyond_the_end(self):
        for data in (
            [0, 128], [0, 255], [1, 85], [1, 255], [0, 1, 255], [0, 1, 254], [0, 1, 253], [1, 1, 0, 2, 252],
            [1, 2, 0, 2, 0, 0, 3, 249], [1, 2, 0, 2, 0, 0, 3, 255], [0, 1, 0, 253], [0, 1, 0, 255],
        ):
            self.damaged(filled(data))

    def test_a_last_length_or_number_that_lies_behind_the_end(self):
        self.damaged([0, 1, 253] + [1] * 253)
        self.damaged([0, 2, 252] + [1] * 252 + [0])
        self.damaged([1, 3, 0, 2, 0, 0, 3, 248] + [1] * 248)
        for missing in (1, 2, 3):
            last = filled([])[:3 - missing]
            data = [1, 3, 0, 2, 0, 0, 3, 248 - len(last)] + [1] * (248 - len(last)) + last
            self.assertEqual(len(data), 256)
            self.damaged(data)
        self.assertEqual(len(read_page([1, 3, 0, 2, 0, 0, 3, 245] + [1] * 245 + [0] * 3)[1]), 3)

    def test_bytes_behind_the_last_entry(self):
        for page, start in ((SMALL_LEAF, SMALL_LEAF_BYTES), (SMALL_INNER, SMALL_INNER_BYTES), (("leaf", ()), [0, 0])):
            data = write_page(page)
            for at in range(len(start), 256):
                for byte in (1, 128, 255):
                    self.damaged(data[:at] + [byte] + data[at + 1:])

    def test_values_that_are_no_keys_of_values(self):
        for value in (
            [1], [2], [3], [0], [2, 97], [2, 37, 0], [2, 31, 0], [2, 127, 0], [2] + [97] * 7 + [0], [1, 128, 0, 0, 0],
            list(slow_key((BOUND + 1,))), list(slow_key((-BOUND - 1,))), [2, 0, 0], [1, 128, 0, 0, 0, 0, 1],
        ):
            self.damaged(filled([0, 1, 1, 9, len(value)] + value))
            self.damaged(filled([0, 2, 1, 9, len(value)] + value + [1, 10, 2, 2, 0]))
            self.damaged(filled([0, 2, 1, 9, 2, 2, 0, 1, 10, len(value)] + value))
        self.assertEqual(read_page(filled([0, 1, 1, 9, 6] + list(slow_key((BOUND,))))), ("leaf", (((9,), (BOUND,)),)))

    def test_a_first_child_whose_first_key_is_not_empty(self):
        self.damaged(filled([1, 1, 0, 2, 1, 9]))
        self.damaged(filled([1, 2, 0, 2, 1, 0, 0, 3, 1, 9]))

    def test_each_byte_changed_to_many_others(self):
        draw = random.Random(23)
        told = [0, 0]
        for page in full_pages():
            data = write_page(page)
            for at in range(256):
                old = data[at]
                for byte in {0, 1, 2, 3, 6, 37, 127, 255, (old + 1) & 255, (old - 1) & 255, draw.randrange(256)}:
                    told[self.check(data[:at] + [byte] + data[at + 1:])] += 1
        self.assertGreater(min(told), 1000)

    def test_each_byte_of_damaged_pages_changed(self):
        draw = random.Random(24)
        starts = (
            [0, 128], [1, 85], [0, 1, 253], [0, 2, 1, 9, 1, 3, 1, 10, 0], [2, 1, 0, 0], [1, 1, 0, 2, 1, 9],
            [0, 1, 1, 9, 3, 2, 37, 0], [0, 1, 1, 9, 0, 7], [1, 2, 0, 2, 0, 0, 3, 249],
        )
        for start in starts:
            data = filled(start)
            for at in list(range(len(start))) + [255]:
                for byte in range(256):
                    self.check(data[:at] + [byte] + data[at + 1:])
            short = data[:-1]
            short[draw.randrange(255)] = draw.randrange(256)
            self.damaged(short)
            self.damaged(data + [draw.randrange(256)])

    def test_drawn_bytes(self):
        draw = random.Random(25)
        for _ in range(3000):
            few = [draw.choice((0, 0, 1, 2, 3, 97)) for _ in range(draw.randrange(30))]
            self.check(filled(few))
            self.check(filled(list(drawn_bytes(draw, 40))))
            self.check(filled([draw.randrange(3), draw.randrange(4)] + few))

    def test_numbers_that_are_no_bytes(self):
        for page in (SMALL_LEAF, SMALL_INNER):
            data = write_page(page)
            for at in range(1, len(SMALL_LEAF_BYTES) + 1):
                for wrong in (256, -1, 353):
                    self.damaged(data[:at] + [wrong] + data[at + 1:])


class Arguments(unittest.TestCase):
    """Point [3]: what is passed stays, and what is returned has no tie to it."""

    def test_pages_and_bytes_stay(self):
        for page in full_pages():
            before = repr(page)
            data = write_page(page)
            self.assertEqual(repr(page), before)
            copied = list(data)
            read_page(data)
            self.assertEqual(data, copied)

    def test_bytes_stay_if_they_are_no_page(self):
        for data in ([0] * 255, [9] * 256, filled([0, 1, 255]), filled([0, 1, 1, 9, 1, 3]), filled([0, 0, 1])):
            copied = list(data)
            with self.assertRaises(DamagedData):
                read_page(data)
            self.assertEqual(data, copied)

    def test_each_list_of_bytes_is_a_new_one(self):
        for page in full_pages():
            expected = slow_page(page)
            data = write_page(page)
            data[:] = [77] * 300
            self.assertEqual(write_page(page), expected)

    def test_a_page_does_not_change_with_the_bytes_that_it_was_read_from(self):
        for page in full_pages():
            data = write_page(page)
            found = read_page(data)
            for at in range(256):
                data[at] = 77
            self.assertEqual(found, page)


if __name__ == "__main__":
    unittest.main()
