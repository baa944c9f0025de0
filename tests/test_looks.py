"""Points [3] and [17]: what a Look reads, and what it notes."""

import random
import unittest

from models import EVERYTHING, changed_map, drawn_changes, drawn_map_key, drawn_span, k, neighbour, put
from samples import slow_key
from tables import tree_of
from sameanswer.keys import prefix_range
from sameanswer.looks import Look

TREE = tree_of({k(1): ("one",), k(2): (), k(3): (3, "three"), k(5): (5,)})
EMPTY = tree_of({})


def around(key):
    """The range that is noted for a key that was got."""
    return key, key + (0,)


class Reading(unittest.TestCase):
    def test_the_tree_alone(self):
        look = Look(TREE, {})
        self.assertEqual([look.get(k(number)) for number in range(1, 6)], [("one",), (), (3, "three"), None, (5,)])
        self.assertEqual(look.scan(EVERYTHING), [(k(1), ("one",)), (k(2), ()), (k(3), (3, "three")), (k(5), (5,))])
        self.assertEqual(look.scan((k(2), k(5))), [(k(2), ()), (k(3), (3, "three"))])

    def test_changes_over_nothing(self):
        look = Look(EMPTY, {k(2): ("b",), k(1): (), k(3): None})
        self.assertEqual([look.get(k(number)) for number in range(5)], [None, (), ("b",), None, None])
        self.assertEqual(look.scan(EVERYTHING), [(k(1), ()), (k(2), ("b",))])

    def test_keys_of_the_tree_that_are_put_in_or_removed(self):
        look = Look(TREE, {k(1): None, k(2): ("new",), k(3): (), k(7): None})
        self.assertEqual([look.get(k(number)) for number in (1, 2, 3, 4, 5, 7)], [None, ("new",), (), None, (5,), None])
        self.assertEqual(look.scan(EVERYTHING), [(k(2), ("new",)), (k(3), ()), (k(5), (5,))])

    def test_new_keys_stand_in_their_order(self):
        look = Look(TREE, {k(9): ("z",), k(4): ("d",), k(0): ("a",), k(1) + (0,): ("longer",), k(5)[:-1]: ("shorter",)})
        self.assertEqual([key for key, _ in look.scan(EVERYTHING)],
                         [k(0), k(1), k(1) + (0,), k(2), k(3), k(4), k(5)[:-1], k(5), k(9)])

    def test_ranges_have_their_low_end_and_not_their_high_one(self):
        for look in (Look(TREE, {}), Look(EMPTY, dict(TREE.scan(EVERYTHING)))):
            self.assertEqual(look.scan((k(1), k(2))), [(k(1), ("one",))])
            self.assertEqual(look.scan((k(1) + (0,), k(2) + (0,))), [(k(2), ())])
            for span in ((k(1), k(1)), (k(3), k(1)), (k(4), k(5)), ((), ()), ((3,), (4,))):
                self.assertEqual(look.scan(span), [])

    def test_nothing(self):
        look = Look(EMPTY, {})
        self.assertEqual((look.get(k(1)), look.get(()), look.scan(EVERYTHING)), (None, None, []))

    def test_drawn_maps_and_changes(self):
        for seed in range(60):
            draw = random.Random(seed)
            present = changed_map({}, drawn_changes(draw, {}, 40, 0))
            changes = dict(drawn_changes(draw, present, draw.randrange(30), draw.choice((0, 3, 10))))
            changes = dict(draw.sample(sorted(changes.items()), len(changes)))
            after = changed_map(present, changes)
            look = Look(tree_of(present), changes)
            for _ in range(20):
                span = drawn_span(draw, after)
                inside = sorted(pair for pair in after.items() if span[0] <= pair[0] < span[1])
                self.assertEqual(look.scan(span), inside)
            keys = list(after) + list(changes) + [drawn_map_key(draw)]
            for key in keys + [neighbour(draw, key) for key in keys]:
                self.assertEqual(look.get(key), after.get(key))


class Noting(unittest.TestCase):
    def test_nothing_is_noted_at_first(self):
        self.assertEqual(Look(TREE, {k(1): None}).looks(), [])

    def test_ranges_in_the_order_in_which_they_were_read(self):
        look = Look(TREE, {k(4): ("four",), k(5): None})
        look.get(k(5))
        look.scan(prefix_range(slow_key((2, "t"))))
        look.get(k(4))
        look.scan(EVERYTHING)
        look.get(k(9))
        look.get(())
        self.assertEqual(look.looks(), [
            around(k(5)), prefix_range(slow_key((2, "t"))), around(k(4)), EVERYTHING, around(k(9)), ((), (0,))])
        self.assertIsInstance(look.looks(), list)

    def test_each_once(self):
        look = Look(TREE, {})
        for _ in range(2):
            look.scan((k(1), k(3)))
            look.get(k(2))
            look.scan((k(1), k(3)))
            look.get(k(1))
        self.assertEqual(look.looks(), [(k(1), k(3)), around(k(2)), around(k(1))])

    def test_a_range_that_is_read_again_in_another_way(self):
        look = Look(TREE, {})
        look.get(k(1))
        self.assertEqual(look.scan(around(k(1))), [(k(1), ("one",))])
        look.scan(around(k(2)))
        self.assertEqual(look.get(k(2)), ())
        self.assertEqual(look.looks(), [around(k(1)), around(k(2))])

    def test_ranges_that_meet_stay_apart(self):
        look = Look(TREE, {})
        spans = [(k(1), k(4)), (k(2), k(3)), (k(1), k(3)), (k(3), k(3)), (k(4), k(1)), ((), ())]
        for span in spans:
            look.scan(span)
        self.assertEqual(look.looks(), spans)

    def test_drawn_rows_of_readings(self):
        for seed in range(20):
            draw = random.Random(seed)
            present = dict(put(*range(6)))
            look, noted = Look(tree_of(present), {k(1): None}), []
            for _ in range(40):
                key = k(draw.randrange(8))
                if draw.randrange(2):
                    look.get(key)
                    noted.append(around(key))
                else:
                    noted.append(draw.choice(((key, k(draw.randrange(8))), around(key))))
                    look.scan(noted[-1])
                self.assertEqual(look.looks(), list(dict.fromkeys(noted)))


class WhatIsPassedAndTold(unittest.TestCase):
    def test_what_is_passed_stays(self):
        changes = {k(1): None, k(4): ("four",)}
        told, pages = list(changes.items()), dict(TREE.pages)
        look = Look(TREE, changes)
        look.get(k(1))
        look.get(k(8))
        look.scan(EVERYTHING)
        look.looks()
        self.assertEqual((list(changes.items()), TREE.pages), (told, pages))

    def test_a_dict_that_is_changed_afterwards(self):
        changes = {k(1): None}
        look = Look(TREE, changes)
        changes[k(2)] = ("new",)
        changes[k(1)] = ("back",)
        self.assertEqual((look.get(k(1)), look.get(k(2))), (None, ()))
        changes.clear()
        self.assertEqual(look.scan((k(1), k(3))), [(k(2), ())])

    def test_lists_that_are_changed_afterwards(self):
        look = Look(TREE, {k(4): ("four",)})
        look.scan(EVERYTHING).clear()
        look.looks().append(around(k(1)))
        look.looks().clear()
        self.assertEqual(look.looks(), [EVERYTHING])
        self.assertEqual(len(look.scan(EVERYTHING)), 5)

    def test_looks_of_one_tree_are_apart(self):
        first, second = Look(TREE, {k(1): None}), Look(TREE, {})
        first.get(k(1))
        self.assertEqual((second.looks(), second.get(k(1))), ([], ("one",)))
        self.assertEqual((first.get(k(1)), first.looks(), second.looks()), (None, [around(k(1))], [around(k(1))]))


if __name__ == "__main__":
    unittest.main()
