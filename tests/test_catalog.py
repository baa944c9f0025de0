"""Points [3] and [7]: the entries of tables, indexes and rows."""

import itertools
import random
import unittest

from samples import INTEGERS, TEXTS, VALUES, drawn_values, slow_key
from tables import drawn_table, drawn_tables, entry, look_at, made, map_of, prefix, tree_of
from sameanswer.catalog import index_key, indexes, row_changes, row_key, table
from sameanswer.looks import Look

NAMES = ("t", "ta", "tab", "table", "table1", "t1", "t0", "z", "z99999", "abcdef")


def look_over(present):
    return Look(tree_of(present), {})


class Tables(unittest.TestCase):
    def test_the_entry_byte_by_byte(self):
        key = (1, 128, 0, 0, 0, 0, 2, 116, 0)
        self.assertEqual(table(look_over({key: (1, 0, 1)}), "t"), (1, ("integer", "text")))
        self.assertEqual(table(Look(tree_of({}), {key: (2, 1, 1)}), "t"), (2, ("text", "text")))

    def test_tables_with_one_to_four_columns_of_both_kinds(self):
        for many in range(1, 5):
            for kinds in itertools.product("it", repeat=many):
                for count in range(1, min(many, 2) + 1):
                    told = made(count, kinds, {})
                    self.assertEqual(table(look_at({"tab": told}), "tab"), (count, told[1]))
                    self.assertIsInstance(table(look_at({"tab": told}), "tab")[1], tuple)

    def test_tables_that_are_not_there(self):
        for name in NAMES:
            others = {other: made(1, "i", {"i": (0,)}, (1,)) for other in NAMES if other != name}
            look = look_at(others)
            self.assertEqual((table(look, name), indexes(look, name)), (None, {}))
            self.assertEqual(table(look, NAMES[0] if name != NAMES[0] else "z"), (1, ("integer",)))
            self.assertEqual((table(look_at({}), name), indexes(look_at({}), name)), (None, {}))

    def test_what_is_looked_at(self):
        for name in NAMES:
            look = look_at({"t": made(1, "i", {"i": (0,)}, (1,))})
            table(look, name)
            self.assertEqual(look.looks(), [entry((0, name))])
            indexes(look, name)
            self.assertEqual(look.looks(), [entry((0, name)), prefix((1, name))])

    def test_names_that_are_longer_than_names_are(self):
        look = look_at({"muchlonger": made(1, "i", {"indexes9": (0,)}, (1,))})
        self.assertEqual(table(look, "muchlonger"), (1, ("integer",)))
        self.assertEqual(indexes(look, "muchlonger"), {"indexes9": (0,)})


class Indexes(unittest.TestCase):
    def test_the_entry_byte_by_byte(self):
        key = (1, 128, 0, 0, 0, 1, 2, 116, 0, 2, 105, 49, 0)
        self.assertEqual(indexes(look_over({key: (2, 0)}), "t"), {"i1": (2, 0)})

    def test_several_indexes_of_tables_whose_names_begin_with_one_another(self):
        tables = {
            "t": made(1, "iit", {"i": (1,), "ia": (2, 0), "z": (0,)}, (1, 2, "x")),
            "ta": made(1, "it", {"i": (1, 0)}, (1, "x")),
            "tab": made(2, "it", {}),
        }
        look = look_at(tables)
        self.assertEqual(indexes(look, "t"), {"i": (1,), "ia": (2, 0), "z": (0,)})
        self.assertEqual((indexes(look, "ta"), indexes(look, "tab")), ({"i": (1, 0)}, {}))
        self.assertIsInstance(indexes(look, "t")["ia"], tuple)

    def test_a_dict_that_is_changed_afterwards(self):
        look = look_at({"t": made(1, "i", {"i": (0,)})})
        indexes(look, "t").clear()
        self.assertEqual(indexes(look, "t"), {"i": (0,)})

    def test_drawn_tables(self):
        for seed in range(100):
            draw = random.Random(seed)
            tables = drawn_tables(draw)
            look = look_at(tables, draw)
            for name in set(NAMES) | set(tables):
                count, kinds, found, _ = tables.get(name, (None, None, {}, {}))
                self.assertEqual(table(look, name), (count, kinds) if name in tables else None)
                self.assertEqual(indexes(look, name), found)


class Keys(unittest.TestCase):
    def test_keys_byte_by_byte(self):
        self.assertEqual(row_key("t", (1, "a")), (1, 128, 0, 0, 0, 2, 2, 116, 0, 1, 128, 0, 0, 0, 1, 2, 97, 0))
        self.assertEqual(row_key("t", ()), (1, 128, 0, 0, 0, 2, 2, 116, 0))
        self.assertEqual(index_key("t", "i1", ()), (1, 128, 0, 0, 0, 3, 2, 116, 0, 2, 105, 49, 0))
        self.assertEqual(index_key("t", "i", ("", -1)),
                         (1, 128, 0, 0, 0, 3, 2, 116, 0, 2, 105, 0, 2, 0, 1, 127, 255, 255, 255, 255))

    def test_all_values_and_prefixes(self):
        draw = random.Random(1)
        for values in [(), ("", "")] + [(value,) for value in VALUES] + [drawn_values(draw, 4) for _ in range(200)]:
            name, index = draw.choice(NAMES), draw.choice(NAMES)
            self.assertEqual(row_key(name, values), slow_key((2, name) + values))
            self.assertEqual(index_key(name, index, values), slow_key((3, name, index) + values))
            for many in range(len(values)):
                start = row_key(name, values[:many])
                self.assertEqual(row_key(name, values)[:len(start)], start)

    def test_names_that_begin_with_one_another_have_no_keys_in_common(self):
        for first, second in itertools.permutations(NAMES, 2):
            key = row_key(first, ())
            self.assertNotEqual(row_key(second, (1,))[:len(key)], key)
            key = index_key("t", first, ())
            self.assertNotEqual(index_key("t", second, (1,))[:len(key)], key)


class RowChanges(unittest.TestCase):
    def check(self, name, shape, found, row, present, expected):
        told = dict(found)
        changes = row_changes(name, shape, found, row, present)
        self.assertIsInstance(changes, list)
        self.assertEqual(sorted(changes), sorted(expected))
        self.assertEqual(found, told)
        return changes

    def test_a_row_by_hand(self):
        shape, found = (1, ("integer", "text")), {"i": (1,), "j": (1, 0)}
        put_in = [(slow_key((2, "t", 7)), (7, "x")), (slow_key((3, "t", "i", "x", 7)), ()),
                  (slow_key((3, "t", "j", "x", 7, 7)), ())]
        self.check("t", shape, found, (7, "x"), True, put_in)
        self.check("t", shape, found, (7, "x"), False, [(key, None) for key, _ in put_in])

    def test_no_index(self):
        self.check("t", (1, ("text",)), {}, ("",), True, [(slow_key((2, "t", "")), ("",))])
        self.check("t", (1, ("text",)), {}, ("",), False, [(slow_key((2, "t", "")), None)])

    def test_two_key_columns_and_indexes_of_them(self):
        shape, found = (2, ("text", "integer", "integer")), {"i": (0,), "j": (1, 0), "k": (2,)}
        row = ("ab", -5, 9)
        self.check("tab", shape, found, row, True, [
            (slow_key((2, "tab", "ab", -5)), row), (slow_key((3, "tab", "i", "ab", "ab", -5)), ()),
            (slow_key((3, "tab", "j", -5, "ab", "ab", -5)), ()), (slow_key((3, "tab", "k", 9, "ab", -5)), ())])

    def test_all_values(self):
        for number, text in itertools.product(INTEGERS, TEXTS):
            self.check("t", (1, ("integer", "text")), {"i": (1,)}, (number, text), True,
                       [(slow_key((2, "t", number)), (number, text)), (slow_key((3, "t", "i", text, number)), ())])

    def test_drawn_tables_row_by_row(self):
        for seed in range(150):
            draw = random.Random(seed)
            count, kinds, found, rows = drawn_table(draw)
            frame = map_of({"tab": (count, kinds, found, {})})
            whole = map_of({"tab": (count, kinds, found, rows)})
            changes = [change for row in rows.values()
                       for change in row_changes("tab", (count, kinds), found, row, True)]
            self.assertEqual({**frame, **dict(changes)}, whole)
            self.assertEqual(len(changes), len(whole) - len(frame))
            for row in rows.values():
                put_in = row_changes("tab", (count, kinds), found, row, True)
                self.check("tab", (count, kinds), found, row, False, [(key, None) for key, _ in put_in])


if __name__ == "__main__":
    unittest.main()
