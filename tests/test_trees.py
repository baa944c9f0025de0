"""Points [6] and [8] to [11]: trees, how they are read, and how they are changed."""

import random
import unittest

from models import (
    EVERYTHING, away, changed_map, check_tree, drawn_changes, drawn_map_key, drawn_map_value, drawn_span, entries_of, k,
    neighbour, numbers_of, pages_for, put, slow_changed, way_to,
)
from samples import drawn_values, slow_key, slow_page
from sameanswer.errors import DiskFull
from sameanswer.keys import key_of, prefix_range
from sameanswer.trees import Tree

EMPTY = Tree(None, {})


def leaf(*numbers):
    """A leaf with these keys and empty values."""
    return ("leaf", tuple(put(*numbers)))


def inner(*children):
    """An inner page with these pairs of a first key's number and a page number; the first one's is not looked at."""
    return ("inner", tuple((k(number) if at else (), page) for at, (number, page) in enumerate(children)))


def three_levels():
    """A tree of 14 pages, with leaves of the keys 10 to 49 in fours."""
    pages = {number: leaf(*range(4 * number + 2, 4 * number + 6)) for number in range(2, 12)}
    pages[20] = inner((10, 2), (14, 3), (18, 4), (22, 5))
    pages[21] = inner((26, 6), (30, 7), (34, 8), (38, 9))
    pages[22] = inner((42, 10), (46, 11))
    pages[30] = inner((10, 20), (26, 21), (42, 22))
    return Tree(30, pages)


class TreeTest(unittest.TestCase):
    def check(self, tree, changes, free):
        """The changed tree, or None for DiskFull: it must be what the other way makes, and nothing else changes."""
        before = tree.root, dict(tree.pages), list(changes), list(free)
        expected = slow_changed(tree.root, tree.pages, changes, free)
        if expected is None:
            after = None
            with self.assertRaises(DiskFull):
                tree.changed(changes, free)
        else:
            after, taken = tree.changed(changes, free)
            self.assertIsInstance(after, Tree)
            self.assertEqual((after.root, after.pages, taken), expected)
            self.assertEqual(after.numbers(), sorted(after.pages))
            check_tree(self, after.root, after.pages)
        self.assertEqual((tree.root, tree.pages, changes, free), before)
        return after

    def changed(self, tree, changes, free, root, pages, taken):
        """The tree must become just this one, and needs all these free numbers."""
        after, found = tree.changed(changes, free)
        self.assertEqual((after.root, after.pages, found), (root, pages, taken))
        self.check(tree, changes, free)
        if taken:
            with self.assertRaises(DiskFull):
                tree.changed(changes, taken[:-1])
        self.assertEqual(tree.changed(changes, taken)[1], taken)


class EmptyTree(TreeTest):
    def test_it_has_nothing(self):
        self.assertIsNone(EMPTY.root)
        self.assertEqual((EMPTY.pages, EMPTY.numbers()), ({}, []))
        for key in ((), (1,), k(1), (255,) * 60):
            self.assertIsNone(EMPTY.get(key))
        for span in (EVERYTHING, ((), ()), (k(1), k(2)), prefix_range(k(1))):
            self.assertEqual(EMPTY.scan(span), [])

    def test_no_change_of_it(self):
        for changes in ([], away(1), away(1, 2, 3)):
            self.changed(EMPTY, changes, [], None, {}, [])
            self.changed(EMPTY, changes, [5, 6], None, {}, [])

    def test_it_does_not_look_at_pages_that_it_does_not_reach(self):
        tree = Tree(None, {7: leaf(1)})
        self.assertEqual((tree.numbers(), tree.scan(EVERYTHING)), ([], []))
        self.changed(tree, put(2), [9], 9, {9: leaf(2)}, [9])


class Leaves(TreeTest):
    def test_the_first_entries(self):
        self.changed(EMPTY, put(1), [2, 3], 2, {2: leaf(1)}, [2])
        self.changed(EMPTY, put(1, 2, 3, 4), [8, 3], 8, {8: leaf(1, 2, 3, 4)}, [8])
        self.changed(EMPTY, put(1) + away(2) + put(3), [9], 9, {9: leaf(1, 3)}, [9])

    def test_entries_come_and_go_in_order(self):
        tree = Tree(5, {5: leaf(2, 4)})
        self.changed(tree, put(1), [6], 6, {6: leaf(1, 2, 4)}, [6])
        self.changed(tree, put(3), [6], 6, {6: leaf(2, 3, 4)}, [6])
        self.changed(tree, put(5), [6], 6, {6: leaf(2, 4, 5)}, [6])
        self.changed(tree, away(2), [6], 6, {6: leaf(4)}, [6])
        self.changed(tree, away(4), [6], 6, {6: leaf(2)}, [6])
        self.changed(tree, put(1) + away(2) + put(3) + away(4), [6], 6, {6: leaf(1, 3)}, [6])

    def test_another_value(self):
        tree = Tree(5, {5: leaf(2, 4)})
        self.changed(tree, [(k(2), ("x", 1))], [6], 6, {6: ("leaf", ((k(2), ("x", 1)), (k(4), ())))}, [6])
        again = Tree(6, {6: ("leaf", ((k(2), ("x", 1)), (k(4), ())))})
        for value in ((), ("x",), ("x", 2), ("x", "1"), (1, "x")):
            self.changed(again, [(k(2), value)], [7], 7, {7: ("leaf", ((k(2), value), (k(4), ())))}, [7])

    def test_changes_that_change_nothing(self):
        tree = Tree(5, {5: leaf(2, 4)})
        for changes in ([], put(2), put(2, 4), away(1), away(1, 3, 5), away(1) + put(2) + away(3)):
            self.changed(tree, changes, [], 5, tree.pages, [])
            self.changed(tree, changes, [6, 7], 5, tree.pages, [])

    def test_nothing_is_left(self):
        tree = Tree(5, {5: leaf(2, 4)})
        self.changed(tree, away(2, 4), [], None, {}, [])
        self.changed(tree, away(1, 2, 3, 4, 5), [6], None, {}, [])

    def test_the_empty_key_is_a_key(self):
        tree = Tree(5, {5: leaf(2)})
        self.changed(tree, [((), ("e",))], [6], 6, {6: ("leaf", (((), ("e",)), (k(2), ())))}, [6])
        self.assertEqual(Tree(6, {6: ("leaf", (((), ("e",)),))}).get(()), ("e",))


class Splits(TreeTest):
    def test_a_leaf_of_exactly_256_bytes_and_of_one_more(self):
        entries = [(k(at, 48), ()) for at in range(4)]
        full = entries + [(k(9, 52), ())]
        self.changed(EMPTY, full, [2, 3, 4], 2, {2: ("leaf", tuple(full))}, [2])
        over = entries + [(k(9, 53), ())]
        pages = {2: ("leaf", tuple(entries)), 3: ("leaf", tuple(over[4:])), 4: ("inner", (((), 2), (k(9, 53), 3)))}
        self.changed(EMPTY, over, [2, 3, 4, 5], 4, pages, [2, 3, 4])

    def test_values_count_as_their_bytes(self):
        first = [(k(at, 40), (1, "abcdef", "abcdef")) for at in range(3)]
        for size, value in ((22, (1, "abcdef", "abcdef")), (22, (1, 2, "", "abcdef")), (20, (1, "abcd", "abcdef"))):
            entries = first + [(k(9, 38), value)]
            self.assertEqual(len(key_of(value)), size)
            self.changed(EMPTY, entries, [2], 2, {2: ("leaf", tuple(entries))}, [2])
        for size, value in ((23, (1, "abcdef", "abcde", "")), (24, (1, 2, 3, 4)), (28, (1, "abcdef") * 2)):
            last = (k(9, 38), value)
            self.assertEqual(len(key_of(value)), size)
            pages = {2: ("leaf", tuple(first)), 3: ("leaf", (last,)), 4: ("inner", (((), 2), (last[0], 3)))}
            self.changed(EMPTY, first + [last], [2, 3, 4], 4, pages, [2, 3, 4])

    def test_another_value_may_split_a_leaf(self):
        tree = Tree(5, {5: leaf(2, 4, 6, 8)})
        longer = (k(4), ("abcde",))
        pages = {
            10: ("leaf", tuple(put(2) + [longer] + put(6))), 11: leaf(8), 12: inner((0, 10), (8, 11)),
        }
        self.changed(tree, [longer], [10, 11, 12], 12, pages, [10, 11, 12])
        shorter = (k(4), ("abc",))
        self.changed(tree, [shorter], [10], 10, {10: ("leaf", tuple(put(2) + [shorter] + put(6, 8)))}, [10])

    def test_entries_are_taken_from_the_front(self):
        tree = Tree(5, {5: leaf(2, 4, 6, 8)})
        for number, first, second in (
            (1, (1, 2, 4, 6), (8,)), (3, (2, 3, 4, 6), (8,)), (5, (2, 4, 5, 6), (8,)), (7, (2, 4, 6, 7), (8,)),
        ):
            pages = {10: leaf(*first), 11: leaf(*second), 12: inner((0, 10), (8, 11))}
            self.changed(tree, put(number), [10, 11, 12], 12, pages, [10, 11, 12])
        pages = {10: leaf(1, 2, 3, 4), 11: leaf(5, 6, 7, 8), 12: leaf(9), 13: inner((0, 10), (5, 11), (9, 12))}
        self.changed(tree, put(1, 3, 5, 7, 9), [10, 11, 12, 13], 13, pages, [10, 11, 12, 13])

    def test_a_page_that_is_split_makes_way_for_new_ones_only(self):
        # The first of the two has just what the page had, but something changed in the page.
        tree = Tree(5, {5: leaf(2, 4, 6, 8)})
        pages = {10: leaf(2, 4, 6, 8), 11: leaf(9), 12: inner((0, 10), (9, 11))}
        self.changed(tree, put(9), [10, 11, 12, 13], 12, pages, [10, 11, 12])

    def test_each_page_is_split_for_itself(self):
        tree = Tree(9, {5: leaf(2, 4, 6, 8), 6: leaf(12, 14, 16), 9: inner((2, 5), (12, 6))})
        pages = {10: leaf(2, 4, 6, 7), 11: leaf(8), 12: inner((2, 10), (8, 11), (12, 6)), 6: leaf(12, 14, 16)}
        self.changed(tree, put(7), [10, 11, 12], 12, pages, [10, 11, 12])
        pages = {
            10: leaf(2, 4, 6, 7), 11: leaf(8), 12: leaf(12, 13, 14, 15), 13: leaf(16),
            14: inner((2, 10), (8, 11), (12, 12), (16, 13)),
        }
        self.changed(tree, put(7, 13, 15), [10, 11, 12, 13, 14], 14, pages, [10, 11, 12, 13, 14])

    def test_pages_are_never_joined(self):
        tree = Tree(9, {5: leaf(2, 4, 6, 8), 6: leaf(12), 9: inner((2, 5), (12, 6))})
        pages = {10: leaf(2), 6: leaf(12), 11: inner((2, 10), (12, 6))}
        self.changed(tree, away(4, 6, 8), [10, 11], 11, pages, [10, 11])
        pages = {10: leaf(2, 4), 11: leaf(12, 13), 12: inner((2, 10), (12, 11))}
        self.changed(tree, away(6, 8) + put(13), [10, 11, 12], 12, pages, [10, 11, 12])

    def test_one_page_may_be_split_into_many(self):
        pages = {number: leaf(*range(4 * number, 4 * number + 4)) for number in range(4)}
        pages[4] = inner((0, 0), (4, 1), (8, 2), (12, 3))
        self.changed(EMPTY, put(*range(16)), [0, 1, 2, 3, 4], 4, pages, [0, 1, 2, 3, 4])

    def test_an_inner_page_of_exactly_256_bytes_and_of_one_more(self):
        pages = {number: leaf(10 * number, 10 * number + 1) for number in (1, 2, 3)}
        pages[4] = leaf(40, 41, 42, 43)
        pages[9] = inner((10, 1), (20, 2), (30, 3), (40, 4))
        tree = Tree(9, pages)
        kept = {number: pages[number] for number in (1, 2, 3)}
        new = {20: leaf(40, 41, 42, 43), 21: ("leaf", ((k(50, 59), ()),))}
        root = ("inner", pages[9][1][:3] + ((k(40), 20), (k(50, 59), 21)))
        self.assertNotEqual(slow_page(root)[255], 0)
        self.changed(tree, [(k(50, 59), ())], [20, 21, 22, 23, 24], 22, {**kept, **new, 22: root}, [20, 21, 22])
        new = {
            20: leaf(40, 41, 42, 43), 21: inner((10, 1), (20, 2), (30, 3), (40, 20)), 22: leaf(50),
            23: inner((50, 22)), 24: inner((10, 21), (50, 23)),
        }
        self.changed(tree, put(50), [20, 21, 22, 23, 24], 24, {**kept, **new}, [20, 21, 22, 23, 24])

    def test_longer_keys_and_values_than_those_of_the_program(self):
        keys = [k(at, 100 + at) for at in range(8)]
        value = ("abcdef",) * 6
        tree = self.check(EMPTY, [(key, value) for key in keys], list(range(2, 40)))
        self.assertEqual(tree.scan(EVERYTHING), [(key, value) for key in keys])
        self.check(tree, [(keys[3], None), (keys[5], ())], list(range(40, 80)))


class Postorder(TreeTest):
    def test_children_come_before_their_page_and_before_the_next_page(self):
        pages = {number: leaf(*range(4 * at, 4 * at + 4)) for at, number in
                 enumerate((2, 3, 4, 5, 7, 8, 9, 10, 12, 13))}
        pages[6] = inner((0, 2), (4, 3), (8, 4), (12, 5))
        pages[11] = inner((16, 7), (20, 8), (24, 9), (28, 10))
        pages[14] = inner((32, 12), (36, 13))
        pages[15] = inner((0, 6), (16, 11), (32, 14))
        self.changed(EMPTY, put(*range(40)), list(range(2, 30)), 15, pages, list(range(2, 16)))

    def test_free_numbers_are_taken_as_they_stand(self):
        free = [40, 7, 599, 3, 2, 12, 65535, 8]
        pages = {40: leaf(1, 2, 3, 4), 7: leaf(5, 6, 7, 8), 599: leaf(9), 3: inner((1, 40), (5, 7), (9, 599))}
        self.changed(EMPTY, put(*range(1, 10)), free, 3, pages, [40, 7, 599, 3])

    def test_only_new_pages_take_numbers(self):
        tree = three_levels()
        pages = dict(tree.pages)
        for number in (3, 20, 10, 22, 30):
            del pages[number]
        pages[50] = leaf(14, 15, 17)
        pages[51] = inner((10, 2), (14, 50), (18, 4), (22, 5))
        pages[52] = leaf(42, 44, 45)
        pages[53] = inner((42, 52), (46, 11))
        pages[54] = inner((10, 51), (26, 21), (42, 53))
        self.changed(tree, away(16, 43), list(range(50, 60)), 54, pages, list(range(50, 55)))

    def test_a_split_in_the_middle_of_three_levels(self):
        tree = three_levels()
        pages = dict(tree.pages)
        for number in (6, 21, 30):
            del pages[number]
        new = {
            50: ("leaf", tuple(put(26) + [(k(26) + (0,), ())] + put(27, 28))), 51: leaf(29),
            52: inner((26, 50), (29, 51), (30, 7), (34, 8)), 53: inner((38, 9)),
            54: inner((10, 20), (26, 52), (38, 53), (42, 22)),
        }
        changes = [(k(26) + (0,), ())]
        self.changed(tree, changes, list(range(50, 60)), 54, {**pages, **new}, list(range(50, 55)))


class Staying(TreeTest):
    def test_a_tree_in_which_nothing_changes_stays_as_a_whole(self):
        tree = three_levels()
        for changes in (
            [], put(10), put(49), put(*range(10, 50)), away(0, 9, 50, 90), away(0) + put(30) + away(60),
            [(k(20, 59), None), (k(20), ()), (k(20) + (0,), None)],
        ):
            self.changed(tree, changes, [], 30, tree.pages, [])
            self.changed(tree, changes, [70, 71], 30, tree.pages, [])

    def test_pages_without_a_change_that_changes_something_keep_their_numbers(self):
        tree = three_levels()
        pages = {number: page for number, page in tree.pages.items() if number not in (8, 21, 30)}
        pages[60] = ("leaf", tuple(put(34, 35) + [(k(36), (1,))] + put(37)))
        pages[61] = inner((26, 6), (30, 7), (34, 60), (38, 9))
        pages[62] = inner((10, 20), (26, 61), (42, 22))
        changes = put(10, 11) + [(k(36), (1,))] + put(37) + away(60)
        self.changed(tree, changes, [60, 61, 62], 62, pages, [60, 61, 62])

    def test_the_new_dict_has_only_the_pages_of_the_new_tree(self):
        tree = Tree(9, {5: leaf(2, 4), 6: leaf(12), 9: inner((2, 5), (12, 6)), 30: leaf(99), 31: inner((1, 7), (2, 8))})
        kept = {number: tree.pages[number] for number in (5, 6, 9)}
        self.changed(tree, [], [40], 9, kept, [])
        self.changed(tree, put(13), [40, 41], 41, {5: leaf(2, 4), 40: leaf(12, 13), 41: inner((2, 5), (12, 40))},
                     [40, 41])
        self.changed(tree, away(2, 4, 12), [40], None, {}, [])


class WhereChangesGo(TreeTest):
    def setUp(self):
        self.tree = Tree(9, {5: leaf(10, 14), 6: leaf(20, 24), 7: leaf(30, 34), 9: inner((10, 5), (20, 6), (30, 7))})

    def one(self, changes, number, page, first):
        """Only the page of this number changes, and its first key is then this one."""
        pages = {at: kept for at, kept in self.tree.pages.items() if at not in (number, 9)}
        children = tuple((first if child == number and at else key, 50 if child == number else child)
                         for at, (key, child) in enumerate(self.tree.pages[9][1]))
        self.changed(self.tree, changes, [50, 51], 51, {**pages, 50: page, 51: ("inner", children)}, [50, 51])

    def test_to_the_last_child_whose_first_key_is_not_greater(self):
        self.one(put(15), 5, leaf(10, 14, 15), ())
        self.one(put(19), 5, leaf(10, 14, 19), ())
        self.one([(k(20), (1,))], 6, ("leaf", ((k(20), (1,)), (k(24), ()))), k(20))
        self.one([(k(20) + (0,), ())], 6, ("leaf", ((k(20), ()), (k(20) + (0,), ()), (k(24), ()))), k(20))
        self.one([(k(20)[:-1], ())], 5, ("leaf", tuple(put(10, 14) + [(k(20)[:-1], ())])), ())
        self.one(put(29), 6, leaf(20, 24, 29), k(20))
        self.one(put(99), 7, leaf(30, 34, 99), k(30))

    def test_to_the_first_child_if_all_first_keys_are_greater(self):
        self.one(put(1), 5, leaf(1, 10, 14), ())
        self.one([((), ())], 5, ("leaf", (((), ()), (k(10), ()), (k(14), ()))), ())

    def test_first_keys_of_the_old_tree_count(self):
        # The key 20 goes, so 21 is the least key of its page then; but 20 and what follows it still belong there.
        self.one(away(20) + put(21), 6, leaf(21, 24), k(21))
        self.one(away(20) + [(k(20) + (0,), ())], 6, ("leaf", ((k(20) + (0,), ()), (k(24), ()))), k(20) + (0,))

    def test_first_keys_are_made_anew(self):
        self.one(away(20), 6, leaf(24), k(24))
        self.one(away(30), 7, leaf(34), k(34))
        self.one(away(10), 5, leaf(14), ())
        tree = three_levels()
        pages = {number: page for number, page in tree.pages.items() if number not in (6, 21, 30)}
        pages[50] = leaf(27, 28, 29)
        pages[51] = inner((27, 50), (30, 7), (34, 8), (38, 9))
        pages[52] = inner((10, 20), (27, 51), (42, 22))
        self.changed(tree, away(26), [50, 51, 52], 52, pages, [50, 51, 52])

    def test_the_first_key_of_a_page_whose_first_child_stays(self):
        tree = three_levels()
        pages = {number: page for number, page in tree.pages.items() if number not in (7, 21, 30)}
        pages[50] = leaf(30, 31, 32)
        pages[51] = inner((26, 6), (30, 50), (34, 8), (38, 9))
        pages[52] = inner((10, 20), (26, 51), (42, 22))
        self.changed(tree, away(33), [50, 51, 52], 52, pages, [50, 51, 52])


class Removal(TreeTest):
    def test_empty_pages_are_left_out(self):
        pages = {5: leaf(10, 14), 6: leaf(20, 24), 7: leaf(30, 34), 9: inner((10, 5), (20, 6), (30, 7))}
        tree = Tree(9, pages)
        self.changed(tree, away(20, 24), [50], 50, {5: pages[5], 7: pages[7], 50: inner((10, 5), (30, 7))}, [50])
        self.changed(tree, away(10, 14), [50], 50, {6: pages[6], 7: pages[7], 50: inner((20, 6), (30, 7))}, [50])
        self.changed(tree, away(30, 34), [50], 50, {5: pages[5], 6: pages[6], 50: inner((10, 5), (20, 6))}, [50])
        self.changed(tree, away(10, 14, 20, 24), [50], 7, {7: pages[7]}, [])
        self.changed(tree, away(10, 14, 30, 34), [], 6, {6: pages[6]}, [])
        self.changed(tree, away(10, 14, 20, 24, 30, 34), [], None, {}, [])
        self.changed(tree, away(10, 14, 20, 24, 30), [50], 50, {50: leaf(34)}, [50])

    def test_inner_pages_are_left_out(self):
        tree = three_levels()
        pages = {number: tree.pages[number] for number in (20, 2, 3, 4, 5, 22, 10, 11)}
        pages[50] = inner((10, 20), (42, 22))
        self.changed(tree, away(*range(26, 42)), [50, 51], 50, pages, [50])
        self.changed(tree, away(*range(10, 50)), [], None, {}, [])

    def test_the_first_key_of_a_page_without_its_first_child(self):
        tree = three_levels()
        pages = {number: page for number, page in tree.pages.items() if number not in (6, 7, 21, 30)}
        pages[50] = inner((34, 8), (38, 9))
        pages[51] = inner((10, 20), (34, 50), (42, 22))
        self.changed(tree, away(*range(26, 34)), [50, 51], 51, pages, [50, 51])

    def test_a_single_child_becomes_the_root(self):
        tree = three_levels()
        pages = {number: tree.pages[number] for number in (21, 6, 7, 8, 9)}
        self.changed(tree, away(*range(10, 26)) + away(*range(42, 50)), [], 21, pages, [])
        self.changed(tree, away(*range(10, 46)), [], 11, {11: leaf(46, 47, 48, 49)}, [])
        self.changed(tree, away(*range(11, 50)), [50], 50, {50: leaf(10)}, [50])

    def test_a_single_child_of_a_page_that_stays_becomes_the_root(self):
        pages = {2: leaf(1), 3: leaf(5, 6), 4: inner((1, 2)), 5: inner((5, 3)), 6: inner((1, 4), (5, 5))}
        self.changed(Tree(6, pages), away(1), [], 3, {3: leaf(5, 6)}, [])
        self.changed(Tree(6, pages), away(5, 6), [], 2, {2: leaf(1)}, [])
        self.changed(Tree(6, pages), away(5), [9, 10, 11], 11,
                     {2: leaf(1), 4: pages[4], 9: leaf(6), 10: inner((6, 9)), 11: inner((1, 4), (6, 10))}, [9, 10, 11])

    def test_removed_and_put_in_at_once(self):
        tree = three_levels()
        pages = {50: leaf(12), 51: inner((12, 50)), 52: leaf(48, 50, 51), 53: inner((48, 52)),
                 54: inner((12, 51), (48, 53))}
        changes = away(*range(10, 12)) + away(*range(13, 48)) + away(49) + put(50, 51)
        self.changed(tree, changes, list(range(50, 60)), 54, pages, [50, 51, 52, 53, 54])


class FreeNumbers(TreeTest):
    def test_disk_full_exactly_if_they_are_too_few(self):
        for tree, changes, needed in (
            (EMPTY, put(1), 1), (EMPTY, put(*range(5)), 3), (EMPTY, put(*range(40)), 14),
            (three_levels(), away(16), 3), (three_levels(), put(50), 4), (three_levels(), away(16, 43), 5),
            (three_levels(), away(*range(10, 26)), 1), (three_levels(), [(k(26) + (0,), ())], 5),
        ):
            free = list(range(100, 100 + needed + 3))
            for many in range(needed + 4):
                after = self.check(tree, changes, free[:many])
                self.assertEqual(after is None, many < needed)

    def test_no_free_numbers_are_enough_if_no_page_is_new(self):
        for tree, changes in (
            (EMPTY, []), (EMPTY, away(1)), (three_levels(), []), (three_levels(), put(10, 49)),
            (three_levels(), away(*range(10, 50))), (three_levels(), away(*range(10, 46))),
        ):
            self.assertIsNotNone(self.check(tree, changes, []))

    def test_all_stays_where_the_disk_is_full(self):
        tree = three_levels()
        before = dict(tree.pages)
        changes, free = put(5, 17, 60) + away(70), [90, 91, 92]
        told = list(changes), list(free)
        for _ in range(2):
            with self.assertRaises(DiskFull):
                tree.changed(changes, free)
            self.assertEqual((tree.root, tree.pages, changes, free), (30, before) + told)
        self.assertEqual([key for key, _ in tree.scan(EVERYTHING)], [k(number) for number in range(10, 50)])


class Reading(TreeTest):
    """get and scan, also with a dict that lacks the pages that they must not visit."""

    def read(self, tree, span):
        """The pairs in a range, read with the pages that may be visited alone."""
        allowed = Tree(tree.root, pages_for(tree.root, tree.pages, span))
        expected = [pair for pair in entries_of(tree.root, tree.pages) if span[0] <= pair[0] < span[1]]
        self.assertEqual(allowed.scan(span), expected)
        self.assertEqual(tree.scan(span), expected)
        return expected

    def value(self, tree, key):
        """The value of a key, read with the pages on the way alone."""
        allowed = {number: tree.pages[number] for number in way_to(tree.root, tree.pages, key)}
        expected = dict(entries_of(tree.root, tree.pages)).get(key)
        self.assertEqual(Tree(tree.root, allowed).get(key), expected)
        self.assertEqual(tree.get(key), expected)
        return expected

    def test_keys_and_neighbours(self):
        tree = three_levels()
        for number in range(10, 50):
            self.assertEqual(self.value(tree, k(number)), ())
            for key in (k(number) + (0,), k(number)[:-1], k(number)[:-1] + (6,), k(number)[:-1] + (8,)):
                self.assertIsNone(self.value(tree, key))
        for key in ((), (0,), (1,), (1, 9), k(9), k(50), (2,), (255,) * 60):
            self.assertIsNone(self.value(tree, key))

    def test_get_tells_the_value(self):
        tree, _ = three_levels().changed([(k(10), ("x",)), (k(33), (-5, "")), (k(49), (0,))], list(range(60, 80)))
        for key, value in ((k(10), ("x",)), (k(33), (-5, "")), (k(49), (0,)), (k(34), ())):
            self.assertEqual(self.value(tree, key), value)

    def test_ranges(self):
        tree = three_levels()
        ends = [k(number) for number in (9, 10, 11, 13, 14, 21, 25, 26, 27, 33, 34, 41, 42, 45, 46, 49, 50)]
        ends += [(), (0,), (1,), (2,), (3,), k(13) + (0,), k(14)[:-1], k(25) + (3,), k(26)[:-1], k(42)[:-1]]
        for low in ends:
            for high in ends:
                self.read(tree, (low, high))

    def test_ranges_that_are_told(self):
        tree = three_levels()
        self.assertEqual(self.read(tree, EVERYTHING), put(*range(10, 50)))
        self.assertEqual(self.read(tree, (k(14), k(18))), put(14, 15, 16, 17))
        self.assertEqual(self.read(tree, (k(13), k(14))), put(13))
        self.assertEqual(self.read(tree, (k(49), (3,))), put(49))
        self.assertEqual(self.read(tree, ((), k(11))), put(10))
        self.assertEqual(self.read(tree, prefix_range(k(30))), put(30))
        self.assertEqual(self.read(tree, ((1, 30), (1, 32))), put(30, 31))
        self.assertEqual(self.read(tree, (k(20), k(20) + (0,))), put(20))
        for empty in (
            (k(20), k(20)), (k(30), k(20)), ((3,), ()), ((), ()), (k(26), k(26)), (k(20) + (0,), k(21)),
            ((), k(10)), (k(50), (3,)), (k(25) + (0,), k(26)), ((4,), (9,)),
        ):
            self.assertEqual(self.read(tree, empty), [])

    def test_a_range_between_two_children_needs_no_other_page_than_those_on_the_way(self):
        tree = three_levels()
        on_the_way = {30, 20, 5, 21, 6}
        allowed = pages_for(30, tree.pages, (k(25) + (0,), k(26)))
        self.assertEqual(set(allowed), on_the_way)
        few = {number: tree.pages[number] for number in (30, 20, 5)}
        self.assertEqual(Tree(30, few).scan((k(25) + (0,), k(25) + (3,))), [])

    def test_prefix_ranges_of_rows(self):
        draw = random.Random(31)
        present = {slow_key((2, draw.choice("tuv")) + drawn_values(draw, 3)): drawn_map_value(draw) for _ in range(300)}
        tree = self.check(EMPTY, sorted(present.items()), list(range(2, 400)))
        for table in "stuvw":
            for values in ((2, table), (2, table, 0), (2, table, "")):
                self.read(tree, prefix_range(key_of(values)))
        for key in present:
            self.assertEqual(self.read(tree, prefix_range(key))[0], (key, present[key]))

    def test_numbers(self):
        self.assertEqual(three_levels().numbers(), list(range(2, 12)) + [20, 21, 22, 30])
        self.assertEqual(Tree(4, {4: leaf(1), 3: leaf(2)}).numbers(), [4])
        tree = Tree(8, {9: leaf(1), 2: leaf(5), 8: inner((1, 9), (5, 2)), 1: leaf(7)})
        self.assertEqual(tree.numbers(), [2, 8, 9])

    def test_drawn_trees(self):
        draw = random.Random(32)
        for _ in range(25):
            tree, present = EMPTY, {}
            for _ in range(draw.randrange(1, 7)):
                changes = drawn_changes(draw, present, 40, draw.randrange(5))
                tree, _ = tree.changed(changes, [n for n in range(2, 900) if n not in tree.pages])
                present = changed_map(present, changes)
            for _ in range(40):
                self.read(tree, drawn_span(draw, present))
            for key in draw.sample(sorted(present), min(20, len(present))):
                self.assertEqual(self.value(tree, key), present[key])
                self.value(tree, neighbour(draw, key))
                self.value(tree, drawn_map_key(draw))


class RowsOfChanges(TreeTest):
    def row(self, seed, many, removals, free_numbers):
        """A row of changes from the empty tree; all trees are kept, and must still be what they were at its end."""
        draw = random.Random(seed)
        tree, present, kept = EMPTY, {}, []
        for _ in range(many):
            changes = drawn_changes(draw, present, draw.randrange(41), draw.choice(removals))
            after = self.check(tree, changes, free_numbers(draw, tree))
            if after is not None:
                kept.append((after, dict(after.pages), present := changed_map(present, changes)))
                tree = after
            self.assertEqual(tree.scan(EVERYTHING), sorted(present.items()))
            self.too_few(tree, draw, present)
        for after, pages, entries in kept:
            self.assertEqual(after.pages, pages)
            self.assertEqual(after.scan(EVERYTHING), sorted(entries.items()))
        return len(kept)

    def too_few(self, tree, draw, present):
        """One number fewer than a change needs, and just as many."""
        changes = drawn_changes(draw, present, draw.choice((1, 2, 10)), 3)
        free = [number for number in range(3000, 3200)]
        _, taken = tree.changed(changes, free)
        self.assertEqual(taken, free[:len(taken)])
        if taken:
            self.assertIsNone(self.check(tree, changes, taken[:-1]))
        self.assertIsNotNone(self.check(tree, changes, taken))

    def test_many_keys_come(self):
        def free(draw, tree):
            return [number for number in range(2, 600) if number not in tree.pages]
        for seed in range(12):
            self.assertEqual(self.row(seed, 12, (0, 1), free), 12)

    def test_keys_come_and_many_go_at_once(self):
        def free(draw, tree):
            return [number for number in range(2, 600) if number not in tree.pages and draw.randrange(3)]
        for seed in range(20, 40):
            self.assertEqual(self.row(seed, 16, (0, 0, 0, 1, 4, 10), free), 16)

    def test_free_numbers_in_any_order_and_too_few(self):
        def free(draw, tree):
            numbers = [number for number in range(2, 2000) if number not in tree.pages]
            return draw.sample(numbers, draw.choice((0, 3, 10, 20, 60, 300)))
        stored = sum(self.row(seed, 16, (0, 1, 6), free) for seed in range(40, 60))
        self.assertTrue(60 < stored < 300, stored)

    def test_the_same_changes_again_change_nothing(self):
        draw = random.Random(33)
        for _ in range(20):
            changes = drawn_changes(draw, {}, 40, 0)
            tree, _ = EMPTY.changed(changes, list(range(2, 100)))
            again, taken = tree.changed(changes, [])
            self.assertEqual((again.root, again.pages, taken), (tree.root, tree.pages, []))

    def test_a_tree_may_be_changed_in_several_ways(self):
        draw = random.Random(34)
        tree = three_levels()
        present = dict(entries_of(30, tree.pages))
        for _ in range(30):
            self.check(tree, drawn_changes(draw, present, 20, 4), list(range(60, 90)))
        self.assertEqual(tree.pages, three_levels().pages)


class Ties(TreeTest):
    """Point [3]: trees have no tie to what they were given or what they told."""

    def test_the_dict_of_pages_is_copied(self):
        pages = dict(three_levels().pages)
        tree = Tree(30, pages)
        pages.clear()
        pages[30] = leaf(1)
        self.assertEqual(tree.scan(EVERYTHING), put(*range(10, 50)))
        self.assertEqual(len(tree.numbers()), 14)

    def test_a_new_tree_has_a_dict_of_its_own(self):
        tree = three_levels()
        for changes in ([], put(10), put(50)):
            after, _ = tree.changed(changes, list(range(60, 90)))
            self.assertIsNot(after.pages, tree.pages)
            after.pages.clear()
        self.assertEqual(tree.pages, three_levels().pages)

    def test_the_arguments_may_change_afterwards(self):
        tree = three_levels()
        changes, free = put(50), [60, 61, 62, 63]
        after, taken = tree.changed(changes, free)
        expected = slow_changed(30, tree.pages, put(50), [60, 61, 62, 63])
        del changes[:], free[:]
        self.assertEqual((after.root, after.pages, taken), expected)

    def test_what_was_told_may_change_afterwards(self):
        tree = three_levels()
        after, taken = tree.changed(put(50), [60, 61, 62, 63])
        for told in (taken, tree.numbers(), tree.scan(EVERYTHING), after.numbers(), after.scan(EVERYTHING)):
            del told[:]
        self.assertEqual(len(tree.numbers()), 14)
        self.assertEqual(after.scan(EVERYTHING), put(*range(10, 51)))
        self.assertEqual(tree.changed(put(50), [60, 61, 62, 63])[1], [60, 61, 62, 63])

    def test_kinds_of_what_is_told(self):
        tree = three_levels()
        after, taken = tree.changed(put(50), [60, 61, 62, 63])
        self.assertIsInstance(taken, list)
        self.assertIsInstance(tree.changed(put(50), [60, 61, 62, 63]), tuple)
        self.assertIsInstance(after.pages, dict)
        self.assertIsInstance(after.numbers(), list)
        self.assertIsInstance(after.scan(EVERYTHING), list)
        for pair in after.scan(EVERYTHING):
            self.assertIsInstance(pair, tuple)
        self.assertEqual(sorted(numbers_of(after.root, after.pages)), after.numbers())


if __name__ == "__main__":
    unittest.main()
