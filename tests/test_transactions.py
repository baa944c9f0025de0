"""Points [3] and [26] to [28]: transactions on trees, and how they are gone through again."""

import copy
import random
import unittest

from models import changed_map, drawn_changes, k, put
from replays import SlowTransaction
from samples import slow_key
from sayings import drawn_statement, slow_say, spoiled_statement
from tables import drawn_tables, made, map_of, tree_of
from sameanswer.errors import Refused
from sameanswer.transactions import Transaction, differing
from sameanswer.trees import Tree

TABLES = {"t": made(1, "iti", {"i": (1,)}, (1, "a", 5), (2, "b", 5), (3, "a", 6)), "u": made(1, "i", {}, (1,))}


def is_(number, value, name="t"):
    """The condition that a column has a value."""
    return ("=", ("column", name, number), ("value", value))


def select(number, *conditions, name="t"):
    return ("select", (("column", name, number),), ((name, name),), conditions)


def put_in(*row):
    return ("insert", "t", row)


def set_to(number, value, *conditions):
    return ("update", "t", ((number, ("value", value)),), conditions)


def add(number, worth, *conditions):
    return ("update", "t", ((number, ("plus", worth)),), conditions)


def after(tables, *statements):
    """The tables after some statements."""
    for statement in statements:
        tables = slow_say(tables, statement)[1]
    return tables


def tree_after(*statements):
    """The tree of the tables after some statements."""
    return tree_of(map_of(after(TABLES, *statements)))


def told_by(transaction, statement):
    """What the transaction tells, as it notes it."""
    try:
        return ("answer", transaction.run(statement))
    except Refused as refused:
        return ("problem", refused.problem)


class Differing(unittest.TestCase):
    def differ(self, first, second, expected):
        one, other = tree_of(dict(first)), tree_of(dict(second))
        before = copy.deepcopy((one.root, one.pages, other.root, other.pages))
        self.assertEqual(differing(one, other), expected)
        self.assertEqual(differing(other, one), expected)
        self.assertIsInstance(differing(one, other), list)
        self.assertEqual((one.root, one.pages, other.root, other.pages), before)

    def test_nothing(self):
        self.differ([], [], [])
        self.differ(put(*range(50)), put(*range(50)), [])
        tree = tree_of(dict(put(1, 2)))
        self.assertEqual(differing(tree, tree), [])

    def test_the_same_map_in_other_pages(self):
        tree = tree_of(dict(put(*range(60))))
        other = Tree(None, {})
        for numbers in (range(0, 60, 2), range(1, 60, 4), range(3, 60, 4)):
            other, _ = other.changed(put(*numbers), [page for page in range(900, 1200) if page not in other.pages])
        self.assertNotEqual(len(tree.pages), len(other.pages))
        self.assertEqual(differing(tree, other), [])
        self.assertEqual(differing(other, tree), [])

    def test_values_and_keys(self):
        self.differ(put(1), [], [k(1)])
        self.differ(put(3, 1, 2), [], [k(1), k(2), k(3)])
        self.differ(put(1, 2, 3, 4), put(2, 3, 5), [k(1), k(4), k(5)])
        self.differ([(k(1), ("a",)), (k(2), (1,))], [(k(1), ("b",)), (k(2), (1,))], [k(1)])
        self.differ([(k(1), ())], [(k(1), (0,))], [k(1)])

    def test_other_pages_under_the_same_numbers(self):
        first = Tree(5, {5: ("leaf", tuple(put(1, 2)))})
        second = Tree(5, {5: ("leaf", tuple(put(2, 3)))})
        self.assertEqual(differing(first, second), [k(1), k(3)])

    def test_keys_of_all_bytes(self):
        keys = [(), (0,), (0, 0), (2, 255), (3,), (255,), (255,) * 60]
        self.differ([(key, ()) for key in keys], [], keys)

    def test_drawn_maps(self):
        for seed in range(60):
            draw = random.Random(seed)
            first = changed_map({}, drawn_changes(draw, {}, 40, 0))
            second = changed_map(first, drawn_changes(draw, first, draw.randrange(20), 4))
            keys = sorted(key for key in {**first, **second} if first.get(key) != second.get(key))
            self.differ(first.items(), second.items(), keys)


class Running(unittest.TestCase):
    def test_answers_on_the_base_with_its_own_changes(self):
        transaction = Transaction(tree_after())
        self.assertEqual(transaction.run(select(0)), [(1,), (2,), (3,)])
        self.assertIsNone(transaction.run(put_in(4, "b", 1)))
        self.assertEqual(transaction.run(("delete", "t", (is_(1, "a"),))), 2)
        self.assertEqual(transaction.run(select(0)), [(2,), (4,)])
        self.assertEqual(transaction.run(add(2, 7)), 2)
        self.assertEqual(transaction.run(select(2, is_(1, "b"))), [(8,), (12,)])
        self.assertIsNone(transaction.run(put_in(1, "c", 0)))
        self.assertIsNone(transaction.run(("drop", "u")))
        self.assertIsNone(transaction.run(("create", "u", ("text",), 1)))
        self.assertEqual(transaction.run(select(0, name="u")), [])
        self.assertEqual(transaction.reruns, 0)

    def test_problems(self):
        transaction = Transaction(tree_after())
        for statement, problem in (
            (put_in(1, "x", 1), ("exists", (1,))), (select(7), ("no column", "t", 7)),
            (("drop", "x"), ("no table", "x")),
        ):
            with self.assertRaises(Refused) as caught:
                transaction.run(statement)
            self.assertEqual(caught.exception.problem, problem)
        transaction.run(("delete", "t", (is_(0, 1),)))
        self.assertIsNone(transaction.run(put_in(1, "x", 1)))

    def test_the_base_stays(self):
        tree = tree_after()
        pages = dict(tree.pages)
        transaction = Transaction(tree)
        transaction.run(("drop", "t"))
        self.assertEqual(tree.pages, pages)
        self.assertEqual(Transaction(tree).run(select(0)), [(1,), (2,), (3,)])

    def test_reruns_is_set_at_first(self):
        self.assertEqual(vars(Transaction(tree_after()))["reruns"], 0)


class Again(unittest.TestCase):
    def again(self, statements, others, expected, reruns, tables=TABLES):
        """The triple on the tree after the statements of others, and the number of statements that were run again."""
        transaction, slow = Transaction(tree_of(map_of(tables))), SlowTransaction(tables)
        for statement in statements:
            self.assertEqual(told_by(transaction, statement), slow.run(statement))
        now = after(tables, *others)
        if expected[0] is None:
            expected = expected[:2] + ({slow_key(key): value for key, value in expected[2].items()},)
        self.assertEqual((slow.again(now), slow.reruns(now)), (expected, reruns))
        tree = tree_of(map_of(now))
        pages = dict(tree.pages)
        for time in range(1, 4):
            told = transaction.again(tree)
            self.assertEqual((told, transaction.reruns), (expected, reruns * time))
            self.assertIsInstance(told, tuple)
        self.assertEqual(tree.pages, pages)
        return transaction

    def test_nothing_was_said(self):
        self.again([], [], (None, None, {}), 0)
        self.again([], [("drop", "t")], (None, None, {}), 0)

    def test_trees_that_differ_in_nothing(self):
        self.again([select(0), put_in(4, "c", 0), select(1)], [], (
            None, None, {(2, "t", 4): (4, "c", 0), (3, "t", "i", "c", 4): ()}), 0)
        self.again([put_in(1, "", 0), select(9)], [], (None, None, {}), 0)
        self.again([("delete", "t", (is_(0, 2),))], [put_in(9, "z", 9), ("delete", "t", (is_(0, 9),))], (
            None, None, {(2, "t", 2): None, (3, "t", "i", "b", 2): None}), 0)

    def test_something_that_was_not_looked_at(self):
        self.again([select(2, is_(0, 1)), put_in(4, "c", 0)], [set_to(2, 0, is_(0, 2)), put_in(5, "d", 0)], (
            None, None, {(2, "t", 4): (4, "c", 0), (3, "t", "i", "c", 4): ()}), 0)
        self.again([select(0, is_(1, "b"))], [put_in(5, "c", 0), ("drop", "u")], (None, None, {}), 0)
        self.again([select(0)], [("insert", "u", (2,)), ("create", "ta", ("text",), 1)], (None, None, {}), 0)

    def test_something_that_was_looked_at_with_the_same_answer(self):
        self.again([select(0)], [set_to(2, 0, is_(0, 2))], (None, None, {}), 1)
        self.again([select(0, is_(1, "b")), select(2, is_(0, 1))], [set_to(2, 0, is_(0, 2))], (None, None, {}), 1)
        self.again([select(0), select(1), select(2, is_(0, 3))], [put_in(9, "b", 1), ("delete", "t", (is_(0, 9),)),
                                                                  set_to(2, 8, is_(0, 1))], (None, None, {}), 2)

    def test_the_changes_of_the_new_run_count(self):
        self.again([add(2, 1, is_(0, 1))], [set_to(2, 100, is_(0, 1))], (None, None, {(2, "t", 1): (1, "a", 101)}), 1)
        self.again([set_to(2, 0)], [set_to(1, "b", is_(0, 1))], (None, None, {
            (2, "t", 1): (1, "b", 0), (2, "t", 2): (2, "b", 0), (2, "t", 3): (3, "a", 0)}), 1)
        self.again([("drop", "t")], [put_in(4, "z", 0), ("unindex", "t", "i")], (None, None, {
            (0, "t"): None, (2, "t", 1): None, (2, "t", 2): None, (2, "t", 3): None, (2, "t", 4): None}), 1)
        self.again([put_in(4, "c", 7)], [("index", "t", "j", (2,))], (None, None, {
            (2, "t", 4): (4, "c", 7), (3, "t", "i", "c", 4): (), (3, "t", "j", 7, 4): ()}), 1)

    def test_another_answer(self):
        self.again([select(0)], [put_in(9, "z", 0)], (0, ("answer", [(1,), (2,), (3,), (9,)]), None), 1)
        self.again([select(0, is_(0, 1)), select(0)], [put_in(9, "z", 0)],
                   (1, ("answer", [(1,), (2,), (3,), (9,)]), None), 1)
        self.again([put_in(4, "c", 0), ("delete", "t", (is_(1, "b"),))], [set_to(1, "b")], (1, ("answer", 3), None), 1)
        self.again([set_to(2, 1, is_(1, "b"))], [("delete", "t", ())], (0, ("answer", 0), None), 1)

    def test_an_answer_that_becomes_a_problem(self):
        self.again([put_in(9, "y", 1)], [put_in(9, "z", 0)], (0, ("problem", ("exists", (9,))), None), 1)
        self.again([select(0)], [("drop", "t")], (0, ("problem", ("no table", "t")), None), 1)
        create = ("create", "x", ("text",), 1)
        self.again([create], [create], (0, ("problem", ("exists", "x")), None), 1)
        self.again([select(0, is_(0, 1)), select(0, is_(0, 2)), ("unindex", "t", "i"), select(0)],
                   [("unindex", "t", "i")], (2, ("problem", ("no index", "i")), None), 3)

    def test_problems_that_stay_become_answers_or_other_problems(self):
        self.again([put_in(1, "y", 1)], [set_to(2, 77, is_(0, 1))], (None, None, {}), 1)
        self.again([put_in(1, "y", 1)], [put_in(8, "y", 1)], (None, None, {}), 0)
        self.again([put_in(1, "y", 1)], [("delete", "t", (is_(0, 1),))], (0, ("answer", None), None), 1)
        self.again([put_in(1, "y", 1)], [("drop", "t")], (0, ("problem", ("no table", "t")), None), 1)
        self.again([select(0, name="x")], [("create", "x", ("text",), 1)], (0, ("answer", []), None), 1)
        self.again([select(8)], [("unindex", "t", "i")], (None, None, {}), 1)

    def test_a_new_run_that_makes_up_for_the_difference(self):
        # After the update both sides have the same row, so that the query behind it is not run again.
        self.again([set_to(2, 0, is_(0, 1)), select(2, is_(0, 1))], [set_to(2, 9, is_(0, 1))],
                   (None, None, {(2, "t", 1): (1, "a", 0)}), 1)
        self.again([select(0, is_(0, 1)), set_to(2, 0, is_(0, 1)), select(2, is_(0, 1))], [set_to(2, 9, is_(0, 1))],
                   (None, None, {(2, "t", 1): (1, "a", 0)}), 2)
        self.again([("delete", "t", (is_(0, 1),)), select(0)], [set_to(2, 9, is_(0, 1))],
                   (None, None, {(2, "t", 1): None, (3, "t", "i", "a", 1): None}), 1)

    def test_a_new_run_that_makes_a_difference(self):
        # Only the update has looked at what differs; what it changes now is read behind it.
        self.again([add(2, 1, is_(0, 1)), select(2, is_(0, 1))], [set_to(2, 9, is_(0, 1))],
                   (1, ("answer", [(10,)]), None), 2)
        self.again([set_to(1, "z", (">", ("column", "t", 2), ("value", 5))), select(0, is_(1, "z"))],
                   [set_to(2, 9, is_(0, 2)), set_to(2, 0, is_(0, 3))], (1, ("answer", [(2,)]), None), 2)

    def test_a_difference_at_keys_that_are_the_same_in_both_trees(self):
        # Neither tree has a row with 6 or 10 in the index; only the changes of the update put entries there.
        tables = {"t": made(1, "iti", {"j": (2,)}, (1, "a", 5), (2, "b", 5))}
        others = [set_to(2, 9, is_(0, 1))]
        update = add(2, 1, is_(0, 1))
        self.again([update, select(0, is_(2, 10))], others, (1, ("answer", [(1,)]), None), 2, tables)
        self.again([update, select(0, is_(2, 6))], others, (1, ("answer", []), None), 2, tables)
        self.again([update, select(0, is_(2, 7))], others, (None, None, {
            (2, "t", 1): (1, "a", 10), (3, "t", "j", 9, 1): None, (3, "t", "j", 10, 1): ()}), 1, tables)

    def test_a_difference_that_is_hidden_by_a_change_of_the_transaction(self):
        # The index is not looked at before it goes; then it is gone on both sides.
        self.again([("unindex", "t", "i"), select(0, is_(1, "a"))], [set_to(2, 0, is_(0, 2))], (None, None, {
            (1, "t", "i"): None, (3, "t", "i", "a", 1): None, (3, "t", "i", "a", 3): None,
            (3, "t", "i", "b", 2): None}), 1)

    def test_changes_that_make_no_difference_to_the_tree_now(self):
        self.again([set_to(2, 0, is_(0, 1))], [set_to(2, 0, is_(0, 1))], (None, None, {}), 1)
        self.again([put_in(4, "c", 0), ("delete", "t", (is_(0, 4),))], [], (None, None, {}), 0)
        self.again([set_to(2, 0, is_(0, 1)), set_to(2, 5, is_(0, 1))], [], (None, None, {}), 0)
        self.again([set_to(2, 0, is_(0, 1)), set_to(2, 5, is_(0, 1))], [set_to(2, 8, is_(0, 1))], (
            None, None, {(2, "t", 1): (1, "a", 5)}), 1)
        self.again([("delete", "t", (is_(0, 1),)), put_in(1, "a", 9)], [set_to(2, 9, is_(0, 1))], (None, None, {}), 1)

    def test_it_stops_at_the_first_other_answer(self):
        self.again([select(0, is_(0, 2)), select(0), put_in(9, "x", 0), ("drop", "t")], [put_in(9, "z", 0)],
                   (1, ("answer", [(1,), (2,), (3,), (9,)]), None), 1)

    def test_it_is_asked_on_several_trees_and_between_statements(self):
        transaction = Transaction(tree_after())
        transaction.run(select(0))
        self.assertEqual(transaction.again(tree_after()), (None, None, {}))
        self.assertEqual(transaction.again(tree_after(put_in(9, "z", 0)))[0], 0)
        self.assertEqual(transaction.again(tree_after(set_to(2, 0))), (None, None, {}))
        self.assertEqual(transaction.reruns, 2)
        self.assertIsNone(transaction.run(put_in(9, "z", 0)))
        self.assertEqual(len(transaction.again(tree_after())[2]), 2)
        self.assertEqual(transaction.again(tree_after(put_in(9, "z", 0)))[0], 0)
        self.assertEqual(transaction.run(select(0)), [(1,), (2,), (3,), (9,)])
        self.assertEqual(transaction.reruns, 3)

    def test_what_is_told_can_be_changed(self):
        transaction = Transaction(tree_after())
        transaction.run(select(0)).append("more")
        transaction.run(put_in(4, "c", 0))
        told = transaction.again(tree_after(set_to(2, 0)))
        self.assertEqual(told[:2], (None, None))
        told[2].clear()
        self.assertEqual(len(transaction.again(tree_after(set_to(2, 0)))[2]), 2)
        transaction.again(tree_after(put_in(9, "z", 0)))[1][1].clear()
        self.assertEqual(transaction.again(tree_after(put_in(9, "z", 0)))[1][1], [(1,), (2,), (3,), (9,)])


class Drawn(unittest.TestCase):
    def statement(self, draw, tables):
        statement = drawn_statement(draw, tables)
        return spoiled_statement(draw, statement) if draw.randrange(6) == 0 else statement

    def test_drawn_transactions(self):
        told = {}
        for seed in range(200):
            draw = random.Random(seed)
            tables = drawn_tables(draw, 5)
            transaction, slow = Transaction(tree_of(map_of(tables))), SlowTransaction(tables)
            reruns = 0
            for _ in range(draw.randrange(1, 4)):
                for _ in range(draw.randrange(5)):
                    statement = self.statement(draw, slow.now)
                    self.assertEqual(told_by(transaction, statement), slow.run(statement))
                now = tables
                for _ in range(draw.choice((0, 1, 1, 2, 4))):
                    now = slow_say(now, self.statement(draw, now))[1]
                triple = transaction.again(tree_of(map_of(now)))
                self.assertEqual(triple, slow.again(now))
                reruns += slow.reruns(now)
                self.assertEqual(transaction.reruns, reruns)
                case = (triple[0] is None, slow.reruns(now) > 0, bool(triple[2]))
                told[case] = told.get(case, 0) + 1
        self.assertEqual(len(told), 5)
        self.assertGreater(min(told.values()), 10)


if __name__ == "__main__":
    unittest.main()
