"""Points [3], [24] and [25]: what statements answer, what they change, and what they look at."""

import copy
import random
import unittest

from samples import BOUND, slow_key
from sayings import differences, drawn_statement, slow_say, spoiled_statement
from tables import drawn_tables, entry, look_at, made, map_of, prefix, tree_of
from sameanswer.errors import Refused
from sameanswer.looks import Look
from sameanswer.statements import say

INTEGER, TEXT = "integer", "text"

TABLES = {
    "t": made(1, "iti", {"i": (1,), "j": (2, 1)}, (1, "a", 5), (2, "b", 5), (3, "a", 6)),
    "ta": made(2, "tiit", {"i": (0,)}, ("a", 1, 5, "x"), ("a", 2, 5, "y"), ("b", 1, -5, "x")),
    "e": made(1, "ii", {"i": (1,)}),
    "plain": made(1, "it", {}, (1, "a")),
}


def row_at(name, *values):
    """The key of a row."""
    return slow_key((2, name) + values)


def at(*values):
    """The key of a tuple."""
    return slow_key(values)


def is_(alias, number, value):
    """The condition that a column has a value."""
    return ("=", ("column", alias, number), ("value", value))


class StatementTest(unittest.TestCase):
    def said(self, tables, statement, look=None):
        """What say tells, as in slow_say; all that it tells must be what slow_say tells."""
        look = look or look_at(tables)
        copied = copy.deepcopy(statement)
        before = map_of(tables)
        try:
            pair = say(look, statement)
            self.assertIsInstance(pair, tuple)
            told, changes = ("answer", pair[0]), pair[1]
            self.assertIsInstance(changes, dict)
        except Refused as refused:
            self.assertIs(refused.__class__, Refused)
            told, changes = ("problem", refused.problem), {}
        expected, after, looks = slow_say(tables, statement)
        self.assertEqual(told, expected, statement)
        self.assertEqual(changes, differences(before, map_of(after)), statement)
        self.assertEqual(look.looks(), looks, statement)
        self.assertEqual(dict(look.scan(((), (3,)))), before)
        self.assertEqual(statement, copied)
        return told, changes, looks

    def answers(self, statement, answer, changes, looks, tables=TABLES):
        self.assertEqual(self.said(tables, statement), (("answer", answer), changes, looks))

    def refused(self, statement, problem, looks, tables=TABLES):
        self.assertEqual(self.said(tables, statement), (("problem", problem), {}, looks))


class Create(StatementTest):
    def test_tables_of_all_shapes(self):
        for kinds, count, value in (
            ((INTEGER,), 1, (1, 0)), ((TEXT,), 1, (1, 1)), ((TEXT, INTEGER), 2, (2, 1, 0)),
            ((INTEGER, TEXT), 1, (1, 0, 1)), ((INTEGER, TEXT, TEXT), 2, (2, 0, 1, 1)),
            ((TEXT, INTEGER, TEXT, INTEGER), 1, (1, 1, 0, 1, 0)),
        ):
            self.answers(("create", "new", kinds, count), None, {at(0, "new"): value}, [entry((0, "new"))])
            self.answers(("create", "t", kinds, count), None, {at(0, "t"): value}, [entry((0, "t"))], {})

    def test_names(self):
        for name in ("a", "t1", "tab", "tt", "abcdef", "z99999"):
            self.answers(("create", name, (TEXT,), 1), None, {at(0, name): (1, 1)}, [entry((0, name))])

    def test_exists(self):
        for kinds, count in (((INTEGER,), 1), ((), 1), ((TEXT,) * 5, 3), ((INTEGER, TEXT, INTEGER), 1)):
            self.refused(("create", "t", kinds, count), ("exists", "t"), [entry((0, "t"))])

    def test_columns(self):
        looks = [entry((0, "new"))]
        for many, count in (
            (0, 0), (0, 1), (5, 1), (5, 2), (6, 1), (1, 0), (1, 2), (1, 3), (2, 0), (2, 3), (3, 3), (4, 3), (4, 4),
            (4, 0), (2, -1), (9, 9),
        ):
            self.refused(("create", "new", (INTEGER,) * many, count), ("columns",), looks)
            self.refused(("create", "new", (TEXT,) * many, count), ("columns",), looks)


class Drop(StatementTest):
    def test_with_indexes_and_rows(self):
        self.answers(("drop", "t"), None, {
            at(0, "t"): None, at(1, "t", "i"): None, at(1, "t", "j"): None,
            row_at("t", 1): None, row_at("t", 2): None, row_at("t", 3): None,
            at(3, "t", "i", "a", 1): None, at(3, "t", "i", "b", 2): None, at(3, "t", "i", "a", 3): None,
            at(3, "t", "j", 5, "a", 1): None, at(3, "t", "j", 5, "b", 2): None, at(3, "t", "j", 6, "a", 3): None,
        }, [entry((0, "t")), prefix((1, "t")), prefix((2, "t"))])

    def test_without_rows_or_indexes(self):
        self.answers(("drop", "e"), None, {at(0, "e"): None, at(1, "e", "i"): None},
                     [entry((0, "e")), prefix((1, "e")), prefix((2, "e"))])
        self.answers(("drop", "plain"), None, {at(0, "plain"): None, row_at("plain", 1): None},
                     [entry((0, "plain")), prefix((1, "plain")), prefix((2, "plain"))])

    def test_no_table(self):
        for name in ("x", "tab", "a", "pl", "plainx"):
            self.refused(("drop", name), ("no table", name), [entry((0, name))])


class Index(StatementTest):
    def looks(self, name):
        return [entry((0, name)), prefix((1, name)), prefix((2, name))]

    def test_over_rows_that_are_there(self):
        self.answers(("index", "t", "new", (2,)), None, {
            at(1, "t", "new"): (2,), at(3, "t", "new", 5, 1): (), at(3, "t", "new", 5, 2): (),
            at(3, "t", "new", 6, 3): (),
        }, self.looks("t"))
        self.answers(("index", "ta", "k", (3, 1)), None, {
            at(1, "ta", "k"): (3, 1), at(3, "ta", "k", "x", 1, "a", 1): (), at(3, "ta", "k", "y", 2, "a", 2): (),
            at(3, "ta", "k", "x", 1, "b", 1): (),
        }, self.looks("ta"))

    def test_key_columns(self):
        self.answers(("index", "plain", "p", (0,)), None,
                     {at(1, "plain", "p"): (0,), at(3, "plain", "p", 1, 1): ()}, self.looks("plain"))

    def test_no_rows(self):
        self.answers(("index", "e", "k", (1, 0)), None, {at(1, "e", "k"): (1, 0)}, self.looks("e"))

    def test_names_of_other_tables_and_those_that_begin_others(self):
        self.answers(("index", "ta", "j", (2,)), None, {
            at(1, "ta", "j"): (2,), at(3, "ta", "j", 5, "a", 1): (), at(3, "ta", "j", 5, "a", 2): (),
            at(3, "ta", "j", -5, "b", 1): (),
        }, self.looks("ta"))
        self.answers(("index", "e", "ii", (0,)), None, {at(1, "e", "ii"): (0,)}, self.looks("e"))

    def test_no_table(self):
        self.refused(("index", "x", "i", ()), ("no table", "x"), [entry((0, "x"))])

    def test_exists(self):
        for columns in ((1,), (2,), (), (9,), (0, 0)):
            self.refused(("index", "t", "j", columns), ("exists", "j"), [entry((0, "t")), prefix((1, "t"))])

    def test_columns(self):
        for columns in (
            (), (0, 1, 2), (0, 0), (3,), (-1,), (0, 3), (3, 0), (1, -1), (2, 2), (1, 1, 1), (0, 1, 0), (0, 1, 2, 3),
        ):
            self.refused(("index", "t", "new", columns), ("columns",), [entry((0, "t")), prefix((1, "t"))])


class Unindex(StatementTest):
    def test_with_entries(self):
        self.answers(("unindex", "t", "j"), None, {
            at(1, "t", "j"): None, at(3, "t", "j", 5, "a", 1): None, at(3, "t", "j", 5, "b", 2): None,
            at(3, "t", "j", 6, "a", 3): None,
        }, [entry((0, "t")), prefix((1, "t")), prefix((3, "t", "j"))])

    def test_without_entries(self):
        self.answers(("unindex", "e", "i"), None, {at(1, "e", "i"): None},
                     [entry((0, "e")), prefix((1, "e")), prefix((3, "e", "i"))])

    def test_no_table_and_no_index(self):
        self.refused(("unindex", "x", "i"), ("no table", "x"), [entry((0, "x"))])
        for name, index in (("t", "k"), ("t", "ii"), ("ta", "j"), ("plain", "i"), ("e", "j")):
            self.refused(("unindex", name, index), ("no index", index), [entry((0, name)), prefix((1, name))])


class Insert(StatementTest):
    def test_rows(self):
        self.answers(("insert", "t", (4, "a", 5)), None, {
            row_at("t", 4): (4, "a", 5), at(3, "t", "i", "a", 4): (), at(3, "t", "j", 5, "a", 4): (),
        }, [entry((0, "t")), entry((2, "t", 4)), prefix((1, "t"))])
        self.answers(("insert", "plain", (2, "a")), None, {row_at("plain", 2): (2, "a")},
                     [entry((0, "plain")), entry((2, "plain", 2)), prefix((1, "plain"))])
        self.answers(("insert", "ta", ("b", 2, 0, "")), None,
                     {row_at("ta", "b", 2): ("b", 2, 0, ""), at(3, "ta", "i", "b", "b", 2): ()},
                     [entry((0, "ta")), entry((2, "ta", "b", 2)), prefix((1, "ta"))])

    def test_values_at_the_edges(self):
        for row in ((BOUND, ""), (-BOUND, "zzzzzz"), (0, "~~~~~~"), (-1, " ")):
            self.answers(("insert", "plain", row), None, {row_at("plain", row[0]): row},
                         [entry((0, "plain")), entry((2, "plain", row[0])), prefix((1, "plain"))])

    def test_no_table(self):
        self.refused(("insert", "x", ()), ("no table", "x"), [entry((0, "x"))])
        self.refused(("insert", "pla", (1, "a")), ("no table", "pla"), [entry((0, "pla"))])

    def test_kinds(self):
        for row in (
            (), (4,), (4, "a"), (4, "a", 5, 5), ("4", "a", 5), (4, 5, "a"), (4, "a", "5"), (1, "a"), (1, "a", 5, ""),
            ("a", "a", "a"), (4, 4, 4),
        ):
            self.refused(("insert", "t", row), ("kinds",), [entry((0, "t"))])

    def test_what_is_no_value(self):
        for row in ((True, "a"), (None, "a"), (b"4", "a"), (4, False), (4, None)):
            with self.assertRaises(Refused) as caught:
                say(look_at(TABLES), ("insert", "plain", row))
            self.assertEqual(caught.exception.problem, ("kinds",))

    def test_exists(self):
        for row in ((1, "a", 5), (1, "", 0), (3, "x", 1)):
            self.refused(("insert", "t", row), ("exists", row[:1]), [entry((0, "t")), entry((2, "t", row[0]))])
        self.refused(("insert", "ta", ("a", 2, 9, "")), ("exists", ("a", 2)),
                     [entry((0, "ta")), entry((2, "ta", "a", 2))])


class Delete(StatementTest):
    def first(self, name):
        return [entry((0, name)), prefix((1, name))]

    def test_all_some_and_no_rows(self):
        everything = {key: None for key in map_of(TABLES) if key[:9] in (at(2, "t"), at(3, "t"))}
        self.assertEqual(len(everything), 9)
        self.answers(("delete", "t", ()), 3, everything, self.first("t") + [prefix((2, "t"))])
        self.answers(("delete", "t", (("<", ("column", "t", 0), ("value", 2)),)), 1, {
            row_at("t", 1): None, at(3, "t", "i", "a", 1): None, at(3, "t", "j", 5, "a", 1): None,
        }, self.first("t") + [prefix((2, "t"))])
        self.answers(("delete", "t", (is_("t", 2, 7),)), 0, {}, self.first("t") + [prefix((3, "t", "j", 7))])
        self.answers(("delete", "e", ()), 0, {}, self.first("e") + [prefix((2, "e"))])

    def test_by_the_chosen_plan(self):
        gone = {row_at("t", 2): None, at(3, "t", "i", "b", 2): None, at(3, "t", "j", 5, "b", 2): None}
        self.answers(("delete", "t", (is_("t", 0, 2),)), 1, gone, self.first("t") + [prefix((2, "t", 2))])
        self.answers(("delete", "t", (is_("t", 1, "b"),)), 1, gone,
                     self.first("t") + [prefix((3, "t", "i", "b")), entry((2, "t", 2))])
        self.answers(("delete", "t", (is_("t", 1, "b"), is_("t", 2, 5))), 1, gone,
                     self.first("t") + [prefix((3, "t", "j", 5, "b")), entry((2, "t", 2))])
        self.answers(("delete", "t", (is_("t", 2, 5), is_("t", 0, 1))), 1, {
            row_at("t", 1): None, at(3, "t", "i", "a", 1): None, at(3, "t", "j", 5, "a", 1): None,
        }, self.first("t") + [prefix((2, "t", 1))])

    def test_problems(self):
        for conditions, problem in (
            ((is_("t", 3, 1),), ("no column", "t", 3)), ((is_("x", 0, 1),), ("no column", "x", 0)),
            ((is_("t", 0, "1"),), ("kinds",)), ((is_("t", 1, "a"), is_("t", 1, 1), is_("t", 9, 1)), ("kinds",)),
        ):
            self.refused(("delete", "t", conditions), problem, self.first("t"))
        self.refused(("delete", "x", (is_("t", 3, 1),)), ("no table", "x"), self.first("x"))


class Update(StatementTest):
    def first(self, name):
        return [entry((0, name)), prefix((1, name))]

    def update(self, name, settings, conditions, answer, changes, tables=TABLES):
        told, found, _ = self.said(tables, ("update", name, settings, conditions))
        self.assertEqual((told, found), (("answer", answer), changes))

    def test_values(self):
        self.answers(("update", "t", ((1, ("value", "c")),), (is_("t", 0, 1),)), 1, {
            row_at("t", 1): (1, "c", 5), at(3, "t", "i", "a", 1): None, at(3, "t", "i", "c", 1): (),
            at(3, "t", "j", 5, "a", 1): None, at(3, "t", "j", 5, "c", 1): (),
        }, self.first("t") + [prefix((2, "t", 1))])
        self.update("ta", ((3, ("value", "z")), (2, ("value", 0))), (), 3, {
            row_at("ta", "a", 1): ("a", 1, 0, "z"), row_at("ta", "a", 2): ("a", 2, 0, "z"),
            row_at("ta", "b", 1): ("b", 1, 0, "z"),
        })

    def test_sums(self):
        self.update("t", ((2, ("plus", 1)),), (is_("t", 1, "a"),), 2, {
            row_at("t", 1): (1, "a", 6), at(3, "t", "j", 5, "a", 1): None, at(3, "t", "j", 6, "a", 1): (),
            row_at("t", 3): (3, "a", 7), at(3, "t", "j", 6, "a", 3): None, at(3, "t", "j", 7, "a", 3): (),
        })
        self.update("ta", ((2, ("plus", -10)),), (is_("ta", 0, "b"),), 1, {row_at("ta", "b", 1): ("b", 1, -15, "x")})

    def test_results_beyond_the_bounds(self):
        tables = {"n": made(1, "ii", {}, (1, BOUND), (2, BOUND - 1), (3, -BOUND), (4, 0), (5, 1 - BOUND))}
        old = [row[1] for row in tables["n"][3].values()]
        for number, values in (
            (1, (BOUND, BOUND, 1 - BOUND, 1, 2 - BOUND)), (-1, (BOUND - 1, BOUND - 2, -BOUND, -1, -BOUND)),
            (BOUND, (BOUND, BOUND, 0, BOUND, 1)), (-BOUND, (0, -1, -BOUND, -BOUND, -BOUND)),
            (2, (BOUND, BOUND, 2 - BOUND, 2, 3 - BOUND)), (0, (BOUND, BOUND - 1, -BOUND, 0, 1 - BOUND)),
        ):
            changes = {row_at("n", place + 1): (place + 1, values[place])
                       for place in range(5) if values[place] != old[place]}
            self.update("n", ((1, ("plus", number)),), (), 5, changes, tables)

    def test_what_stays_is_no_change(self):
        self.update("t", ((1, ("value", "a")),), (), 3, {
            row_at("t", 2): (2, "a", 5), at(3, "t", "i", "b", 2): None, at(3, "t", "i", "a", 2): (),
            at(3, "t", "j", 5, "b", 2): None, at(3, "t", "j", 5, "a", 2): (),
        })
        self.update("t", ((2, ("plus", 0)),), (), 3, {})
        self.update("t", (), (), 3, {})
        self.update("t", ((2, ("value", 5)), (1, ("value", "b"))), (is_("t", 0, 2),), 1, {})

    def test_columns_that_are_set_twice(self):
        key = row_at("ta", "b", 1)
        only = (is_("ta", 0, "b"),)
        for settings, value in (
            ((("plus", 1), ("plus", 1)), -4), ((("value", 9), ("plus", 1)), -4), ((("plus", 1), ("value", 9)), 9),
            ((("plus", 5), ("plus", 7), ("plus", -1)), -6), ((("value", 1), ("value", 2), ("plus", 2)), -3),
        ):
            self.update("ta", tuple((2, setting) for setting in settings), only, 1, {key: ("b", 1, value, "x")})
        self.update("ta", ((2, ("value", 3)), (3, ("value", "w")), (2, ("plus", 0))), only, 1, {key: ("b", 1, -5, "w")})

    def test_conditions_are_tested_on_the_rows_as_they_were(self):
        self.update("t", ((2, ("plus", 1)),), (is_("t", 2, 5),), 2, {
            row_at("t", 1): (1, "a", 6), at(3, "t", "j", 5, "a", 1): None, at(3, "t", "j", 6, "a", 1): (),
            row_at("t", 2): (2, "b", 6), at(3, "t", "j", 5, "b", 2): None, at(3, "t", "j", 6, "b", 2): (),
        })

    def test_no_rows(self):
        self.update("t", ((2, ("plus", 1)),), (is_("t", 0, 77),), 0, {})
        self.update("e", ((1, ("value", 1)),), (), 0, {})

    def test_problems_of_the_query_come_first(self):
        wrong = ((9, ("value", 1)),)
        self.refused(("update", "x", wrong, (is_("x", 9, 1),)), ("no table", "x"), self.first("x"))
        self.refused(("update", "t", wrong, (is_("x", 0, 1),)), ("no column", "x", 0), self.first("t"))
        self.refused(("update", "t", wrong, (is_("t", 0, ""), is_("x", 0, 1))), ("kinds",), self.first("t"))

    def test_problems_of_settings_come_behind_all_looks(self):
        rows = self.first("t") + [prefix((3, "t", "i", "a")), entry((2, "t", 1)), entry((2, "t", 3))]
        for settings, problem in (
            (((3, ("value", 1)),), ("no column", "t", 3)), (((-1, ("plus", 1)),), ("no column", "t", -1)),
            (((7, ("plus", 1)),), ("no column", "t", 7)), (((0, ("value", 1)),), ("key",)),
            (((0, ("value", "x")),), ("key",)), (((0, ("plus", 1)),), ("key",)), (((1, ("value", 1)),), ("kinds",)),
            (((2, ("value", "x")),), ("kinds",)), (((1, ("plus", 1)),), ("kinds",)), (((1, ("plus", 0)),), ("kinds",)),
        ):
            self.refused(("update", "t", settings, (is_("t", 1, "a"),)), problem, rows)
            self.refused(("update", "t", settings, (is_("t", 0, 77),)), problem,
                         self.first("t") + [prefix((2, "t", 77))])
            self.refused(("update", "t", ((2, ("plus", 1)),) + settings, (is_("t", 1, "a"),)), problem, rows)

    def test_settings_in_their_order(self):
        good, missing, key, kinds = (2, ("plus", 1)), (5, ("value", 1)), (0, ("value", 1)), (1, ("value", 1))
        rows = self.first("t") + [prefix((2, "t"))]
        for settings, problem in (
            ((missing, key, kinds), ("no column", "t", 5)), ((key, kinds, missing), ("key",)),
            ((kinds, missing), ("kinds",)), ((good, kinds, key), ("kinds",)), ((good, good, key, kinds), ("key",)),
            ((kinds, (1, ("value", "x"))), ("kinds",)),
        ):
            self.refused(("update", "t", settings, ()), problem, rows)

    def test_the_second_key_column(self):
        self.refused(("update", "ta", ((1, ("value", 1)),), ()), ("key",), self.first("ta") + [prefix((2, "ta"))])
        self.update("plain", ((1, ("value", "b")),), (), 1, {row_at("plain", 1): (1, "b")})


class Queries(StatementTest):
    def test_a_query_changes_nothing(self):
        query = ("select", (("column", "s", 0),), (("s", "t"),), (is_("s", 1, "a"),))
        self.answers(query, [(1,), (3,)], {}, [entry((0, "t")), prefix((1, "t")), prefix((3, "t", "i", "a")),
                                               entry((2, "t", 1)), entry((2, "t", 3))])

    def test_problems(self):
        looks = [entry((0, "x")), prefix((1, "x"))]
        self.refused(("select", ("count",), (("s", "x"),), ()), ("no table", "x"), looks)


class Drawn(StatementTest):
    def test_rows_of_statements(self):
        told = {}
        for seed in range(120):
            draw = random.Random(seed)
            tables = drawn_tables(draw, 5)
            for _ in range(20):
                statement = drawn_statement(draw, tables)
                if draw.randrange(3) == 0:
                    statement = spoiled_statement(draw, statement)
                result, _, _ = self.said(tables, statement, look_at(tables, draw))
                told[statement[0], result[0]] = told.get((statement[0], result[0]), 0) + 1
                tables = slow_say(tables, statement)[1]
        self.assertEqual(len(told), 16)
        self.assertGreater(min(told.values()), 5)

    def test_only_what_was_looked_at_counts(self):
        # All entries outside of the ranges are taken away or changed: answer, changes and looks stay.
        for seed in range(200):
            draw = random.Random(seed)
            tables = drawn_tables(draw, 6)
            statement = drawn_statement(draw, tables)
            result, changes, looks = self.said(tables, statement)
            others = {key: draw.choice((None, (1, 0), ("other",))) for key in map_of(tables)
                      if not any(low <= key < high for low, high in looks)}
            look = Look(tree_of(map_of(tables)), others)
            if result[0] == "answer":
                self.assertEqual(say(look, statement), (result[1], changes))
            else:
                with self.assertRaises(Refused) as caught:
                    say(look, statement)
                self.assertEqual(caught.exception.problem, result[1])
            self.assertEqual(look.looks(), looks)


class WhatIsPassedAndTold(StatementTest):
    def test_changes_are_not_put_into_the_look(self):
        look = look_at(TABLES)
        for _ in range(2):
            self.assertEqual(len(say(look, ("insert", "t", (9, "z", 9)))[1]), 3)
        self.assertEqual(len(look.scan(prefix((2, "t")))), 3)

    def test_what_is_told_can_be_changed(self):
        look = look_at(TABLES)
        say(look, ("drop", "t"))[1].clear()
        say(look, ("select", (("value", 1),), (("a", "t"),), ()))[0].clear()
        self.assertEqual(len(say(look, ("drop", "t"))[1]), 12)
        self.assertEqual(say(look, ("select", ("count",), (("a", "t"),), ())), ([(3,)], {}))


if __name__ == "__main__":
    unittest.main()
