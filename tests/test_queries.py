"""Points [3] and [18] to [23]: the meaning of queries, their problems, their plans, and what is looked at."""

import copy
import itertools
import random
import unittest

from samples import BOUND, INTEGERS, TEXTS, VALUES, comes_before
from tables import (
    OPERATORS, drawn_query, drawn_tables, entry, first_looks, look_at, made, map_of, prefix, slow_answer, slow_chosen,
    slow_looks, slow_plans, slow_problem, spoiled_query, tree_of,
)
from sameanswer.errors import AnswerError, Refused
from sameanswer.looks import Look
from sameanswer.queries import answer, check_query, chosen, plain, plans, run_plan

TABLE = ("table",)
COUNT = ("count",)

# People with their town and age; towns with their country. Rows come more than once in many answers.
TABLES = {
    "p": made(1, "iti", {"town": (1,), "ta": (1, 2)},
              (1, "ulm", 30), (2, "bonn", 20), (3, "ulm", 20), (4, "", 41), (5, "rome", 30)),
    "c": made(1, "tt", {}, ("ulm", "de"), ("bonn", "de"), ("rome", "it"), ("oslo", "no")),
    "e": made(2, "iti", {"i": (2,)}),
}


def val(value):
    return ("value", value)


def col(alias, number):
    return ("column", alias, number)


def select(outputs, sources, *conditions):
    return ("select", outputs, sources, conditions)


def on_p(outputs, *conditions):
    """A query over the people with the alias a."""
    return select(outputs, (("a", "p"),), *conditions)


def all_ways(query):
    """The calls that run a query, each with a name."""
    return {
        "check_query": lambda look: check_query(look, query), "plans": lambda look: plans(look, query),
        "run_plan": lambda look: run_plan(look, query, tuple((alias, TABLE) for alias, _ in query[2])),
        "answer": lambda look: answer(look, query), "plain": lambda look: plain(look, query),
    }


class QueryTest(unittest.TestCase):
    def answers(self, query, expected, tables=TABLES):
        """Every plan, the chosen one and the plain meaning give this answer."""
        self.assertEqual(slow_answer(tables, query), expected)
        self.assertEqual(answer(look_at(tables), query), expected)
        self.assertEqual(plain(look_at(tables), query), expected)
        for plan in plans(look_at(tables), query):
            self.assertEqual(run_plan(look_at(tables), query, plan), expected, plan)

    def refused(self, query, problem, tables=TABLES):
        """Every call raises Refused with this problem, and looks at the tables and their indexes alone."""
        self.assertEqual(slow_problem(tables, query), problem)
        for name, call in all_ways(query).items():
            look = look_at(tables)
            with self.assertRaises(Refused) as caught:
                call(look)
            self.assertEqual((caught.exception.problem, name), (problem, name))
            self.assertEqual(look.looks(), list(dict.fromkeys(first_looks(query))))
            self.assertIs(caught.exception.__class__, Refused)
            self.assertIsInstance(caught.exception, AnswerError)

    def looks(self, query, plan, expected, tables=TABLES):
        """What the plan looks at behind the tables and their indexes."""
        look = look_at(tables)
        run_plan(look, query, plan)
        first = list(dict.fromkeys(first_looks(query)))
        self.assertEqual(look.looks(), first + expected)
        self.assertEqual(look.looks(), slow_looks(tables, query, plan))


class Meaning(QueryTest):
    def test_one_source(self):
        self.answers(on_p((col("a", 0),)), [(1,), (2,), (3,), (4,), (5,)])
        self.answers(on_p((col("a", 1), col("a", 0)), ("=", col("a", 2), val(30))), [("rome", 5), ("ulm", 1)])
        self.answers(on_p((col("a", 0),), (">", col("a", 2), val(20)), ("<>", col("a", 1), val(""))), [(1,), (5,)])
        self.answers(on_p((col("a", 0),), ("=", col("a", 0), val(3))), [(3,)])
        self.answers(on_p((col("a", 0),), ("=", col("a", 0), val(9))), [])

    def test_rows_come_as_often_as_they_come_and_in_order(self):
        self.answers(on_p((col("a", 2),)), [(20,), (20,), (30,), (30,), (41,)])
        self.answers(on_p((col("a", 1),)), [("",), ("bonn",), ("rome",), ("ulm",), ("ulm",)])
        self.answers(on_p((val(7),)), [(7,)] * 5)
        self.answers(on_p((val("x"), col("a", 2), val("")), ("=", col("a", 1), val("ulm"))),
                     [("x", 20, ""), ("x", 30, "")])
        self.assertIsInstance(answer(look_at(TABLES), on_p((val(7),))), list)
        self.assertIsInstance(answer(look_at(TABLES), on_p((val(7),)))[0], tuple)

    def test_two_sources(self):
        sources = (("a", "p"), ("b", "c"))
        joined = ("=", col("a", 1), col("b", 0))
        self.answers(select((col("b", 1), col("a", 0)), sources, joined), [("de", 1), ("de", 2), ("de", 3), ("it", 5)])
        german, young = ("=", val("de"), col("b", 1)), ("<", col("a", 2), val(30))
        self.answers(select((col("b", 0),), sources, joined, german, young), [("bonn",), ("ulm",)])
        self.answers(select(COUNT, sources), [(20,)])
        self.answers(select(COUNT, sources, ("<", col("b", 0), col("a", 1))), [(8,)])
        self.answers(select((col("a", 0), col("b", 0)), sources, ("=", col("a", 0), val(4)), joined), [])

    def test_the_same_table_twice(self):
        twice = (("a", "p"), ("b", "p"))
        self.answers(select((col("a", 0), col("b", 0)), twice, ("=", col("a", 1), col("b", 1)),
                            ("<", col("a", 0), col("b", 0))), [(1, 3)])
        self.answers(select((col("b", 0), col("a", 0)), twice, ("=", col("b", 2), col("a", 2)),
                            ("<>", col("a", 0), col("b", 0))), [(1, 5), (2, 3), (3, 2), (5, 1)])
        self.answers(select(("sum", col("b", 2)), twice, ("=", col("a", 0), val(1))), [(141,)])

    def test_counts_and_sums(self):
        self.answers(on_p(COUNT), [(5,)])
        self.answers(on_p(COUNT, (">", col("a", 2), val(29))), [(3,)])
        self.answers(on_p(COUNT, (">", col("a", 2), val(99))), [(0,)])
        self.answers(on_p(("sum", col("a", 2))), [(141,)])
        self.answers(on_p(("sum", val(-3))), [(-15,)])
        self.answers(on_p(("sum", col("a", 2)), ("=", col("a", 1), val("none"))), [(0,)])

    def test_a_sum_has_no_bound(self):
        tables = {"t": made(1, "ii", {}, *[(number, BOUND) for number in range(4)])}
        self.answers(select(("sum", col("a", 1)), (("a", "t"), ("b", "t"))), [(16 * BOUND,)], tables)
        self.answers(select(("sum", val(-BOUND)), (("a", "t"),)), [(-4 * BOUND,)], tables)

    def test_no_rows(self):
        for sources in ((("a", "e"),), (("a", "e"), ("b", "p")), (("b", "p"), ("a", "e")), (("a", "e"), ("b", "e"))):
            self.answers(select((col("a", 0),), sources), [])
            self.answers(select((val(1),), sources, ("=", val(1), val(1))), [])
            self.answers(select(COUNT, sources), [(0,)])
            self.answers(select(("sum", col("a", 2)), sources), [(0,)])
            self.answers(select(("sum", val(5)), sources, ("=", col("a", 2), val(1))), [(0,)])

    def test_conditions_between_values(self):
        for operator, holds in zip(OPERATORS, (False, True, True, True, False, False)):
            for first, second in ((1, 2), (-BOUND, BOUND), ("", "a"), ("a", "ab"), ("Z", "a")):
                self.answers(on_p(COUNT, (operator, val(first), val(second))), [(5 if holds else 0,)])
        for operator, holds in zip(OPERATORS, (True, False, False, True, False, True)):
            for value in (0, BOUND, "", "zzzzzz"):
                self.answers(on_p(COUNT, (operator, val(value), val(value))), [(5 if holds else 0,)])

    def test_operators_between_all_values_of_a_kind(self):
        for kind, values in (("i", INTEGERS), ("t", TEXTS)):
            tables = {"t": made(1, kind, {}, *[(value,) for value in values]),
                      "n": made(1, "i" + kind, {"i": (1,)}, *list(enumerate(values)))}
            for operator in OPERATORS:
                def holds(first, second):
                    less, more = comes_before((first,), (second,)), comes_before((second,), (first,))
                    return {"=": first == second, "<>": first != second, "<": less, "<=": not more, ">": more,
                            ">=": not less}[operator]
                pairs = [(one, other) for one in values for other in values if holds(one, other)]
                query = select(COUNT, (("a", "t"), ("b", "n")), (operator, col("a", 0), col("b", 1)))
                self.answers(query, [(len(pairs),)], tables)
                for value in values[::4]:
                    many = sum(1 for one, _ in pairs if one == value), sum(1 for _, one in pairs if one == value)
                    for sides, told in (((val(value), col("b", 1)), many[0]), ((col("b", 1), val(value)), many[1])):
                        self.answers(select(COUNT, (("b", "n"),), (operator,) + sides), [(told,)], tables)

    def test_the_order_of_answers_is_that_of_their_values(self):
        tables = {"t": made(1, "it", {}, *list(enumerate(TEXTS))), "n": made(1, "ii", {}, *list(enumerate(INTEGERS)))}
        self.answers(select((col("a", 1),), (("a", "n"),)), [(value,) for value in sorted(INTEGERS)], tables)
        texts = [(text,) for text in sorted(TEXTS)]
        self.assertEqual(texts[0], ("",))
        self.answers(select((col("a", 1),), (("a", "t"),)), texts, tables)
        self.answers(select((val(1), col("a", 1), col("a", 0)), (("a", "t"),)),
                     [(1, text, TEXTS.index(text)) for text in sorted(TEXTS)], tables)

    def test_conditions_of_one_source_between_its_columns(self):
        tables = {"t": made(2, "iii", {"i": (2, 1)}, (1, 1, 2), (1, 2, 2), (3, 2, 1), (2, 2, 2), (0, 5, 5))}
        three = (col("a", 0), col("a", 1), col("a", 2))
        self.answers(select(three, (("a", "t"),), ("=", col("a", 0), col("a", 1))), [(1, 1, 2), (2, 2, 2)], tables)
        self.answers(select(three, (("a", "t"),), ("=", col("a", 2), col("a", 1)), ("<", col("a", 0), col("a", 1))),
                     [(0, 5, 5), (1, 2, 2)], tables)
        self.answers(select(COUNT, (("a", "t"),), ("=", col("a", 0), col("a", 0))), [(5,)], tables)

    def test_keys_and_indexes_of_two_columns(self):
        tables = {"t": made(2, "titi", {"i": (3, 2), "j": (2,), "k": (1, 0)},
                            ("a", 1, "x", 5), ("a", 2, "x", 5), ("ab", 1, "y", 5), ("", 1, "", 0), ("b", -1, "x", 4))}
        one = (("s", "t"),)
        self.answers(select((col("s", 1),), one, ("=", col("s", 0), val("a"))), [(1,), (2,)], tables)
        key = ("=", col("s", 0), val("a"))
        self.answers(select((col("s", 3),), one, ("=", val(2), col("s", 1)), key), [(5,)], tables)
        self.answers(select((col("s", 0),), one, ("=", col("s", 3), val(5)), ("=", val("x"), col("s", 2))),
                     [("a",), ("a",)], tables)
        empty = ("=", col("s", 0), val(""))
        self.answers(select((col("s", 0),), one, ("=", col("s", 2), val("")), empty), [("",)], tables)
        self.answers(select((col("s", 0),), one, ("=", col("s", 1), val(-1)), key), [], tables)

    def test_two_conditions_that_give_a_column_and_contradict_each_other(self):
        self.answers(on_p((col("a", 0),), ("=", col("a", 1), val("ulm")), ("=", col("a", 1), val("bonn"))), [])
        self.answers(select((col("a", 0),), (("a", "p"), ("b", "c")), ("=", col("a", 1), col("b", 0)),
                            ("=", col("a", 1), val("rome"))), [(5,)])

    def test_names_of_one_to_six_signs(self):
        for name, alias in (("a", "a"), ("z9", "z9"), ("abcdef", "abcdef"), ("t", "t11111"), ("tables", "x")):
            tables = {name: made(1, "it", {name: (1,)}, (1, "a"), (2, "b"))}
            self.answers(select((col(alias, 0),), ((alias, name),), ("=", col(alias, 1), val("b"))), [(2,)], tables)

    def test_names_values_and_texts_that_are_longer_than_they_are(self):
        tables = {"longtable": made(1, "it", {"longindex": (1,)}, (1, "longer text"), (2 * BOUND, "b"))}
        one = (("longalias", "longtable"),)
        number, text = col("longalias", 0), col("longalias", 1)
        self.answers(select((number,), one, ("=", text, val("longer text"))), [(1,)], tables)
        self.answers(select((text,), one, ("=", number, val(2 * BOUND))), [("b",)], tables)

    def test_drawn_queries(self):
        many = 0
        for seed in range(250):
            draw = random.Random(seed)
            tables = drawn_tables(draw)
            for _ in range(4):
                query = drawn_query(draw, tables)
                expected = slow_answer(tables, query)
                self.assertIsNone(check_query(look_at(tables), query))
                self.assertEqual(answer(look_at(tables, draw), query), expected)
                self.assertEqual(plain(look_at(tables, draw), query), expected)
                for plan in slow_plans(tables, query):
                    self.assertEqual(run_plan(look_at(tables, draw), query, plan), expected, (query, plan))
                many += len(expected)
        self.assertGreater(many, 2000)


class Problems(QueryTest):
    def test_no_table(self):
        self.refused(select((col("a", 0),), (("a", "x"),)), ("no table", "x"))
        self.refused(select(COUNT, (("a", "p"), ("b", "x"))), ("no table", "x"))
        self.refused(select(COUNT, (("b", "y"), ("a", "x"))), ("no table", "y"))
        self.refused(select(COUNT, (("a", "pp"),)), ("no table", "pp"))
        self.refused(select(COUNT, (("p", "a"),), ("=", col("x", 1), val(""))), ("no table", "a"))
        self.refused(select(COUNT, (("a", "p"),)), ("no table", "p"), {})

    def test_no_column(self):
        for number in (3, 4, 99, -1, -3):
            self.refused(on_p((col("a", number),)), ("no column", "a", number))
            self.refused(on_p(("sum", col("a", number))), ("no column", "a", number))
            self.refused(on_p(COUNT, ("=", val(1), col("a", number))), ("no column", "a", number))
            self.refused(on_p(COUNT, ("=", col("a", number), val(1))), ("no column", "a", number))
        self.refused(on_p((col("p", 0),)), ("no column", "p", 0))
        self.refused(on_p(("sum", col("b", 2))), ("no column", "b", 2))
        self.refused(on_p(COUNT, (">", col("c", 0), val(1))), ("no column", "c", 0))
        both = (("a", "p"), ("b", "c"))
        self.refused(select((col("b", 2),), both), ("no column", "b", 2))
        self.refused(select((col("b", 1), col("a", 2), col("c", 0)), both), ("no column", "c", 0))

    def test_kinds(self):
        for operator in OPERATORS:
            self.refused(on_p(COUNT, (operator, col("a", 0), col("a", 1))), ("kinds",))
            self.refused(on_p(COUNT, (operator, val("1"), col("a", 0))), ("kinds",))
            self.refused(on_p(COUNT, (operator, col("a", 1), val(0))), ("kinds",))
            self.refused(on_p(COUNT, (operator, val(""), val(0))), ("kinds",))
            self.refused(select(COUNT, (("a", "p"), ("b", "c")), (operator, col("b", 0), col("a", 0))), ("kinds",))
        self.refused(on_p(("sum", col("a", 1))), ("kinds",))
        self.refused(on_p(("sum", val("1"))), ("kinds",))
        self.refused(select(("sum", col("a", 1)), (("a", "e"),)), ("kinds",))

    def test_a_boolean_is_no_value(self):
        with self.assertRaises(Refused) as caught:
            check_query(look_at(TABLES), on_p(COUNT, ("=", col("a", 0), val(True))))
        self.assertEqual(caught.exception.problem, ("kinds",))

    def test_tables_come_before_columns(self):
        wrong = ("=", col("a", 7), val(1))
        self.refused(select((col("a", 8),), (("a", "p"), ("b", "x")), wrong), ("no table", "x"))
        self.refused(select(("sum", val("x")), (("a", "x"), ("b", "y")), ("=", val(1), val(""))), ("no table", "x"))

    def test_conditions_come_before_outputs_and_each_other_in_their_order(self):
        missing, kinds = ("=", col("a", 7), val(1)), ("=", col("a", 0), val("x"))
        good = ("=", col("a", 0), val(1))
        self.refused(on_p((col("a", 8),), good, missing, kinds), ("no column", "a", 7))
        self.refused(on_p((col("a", 8),), good, kinds, missing), ("kinds",))
        self.refused(on_p((col("a", 8),), good, good), ("no column", "a", 8))
        self.refused(on_p(("sum", val("x")), kinds), ("kinds",))
        self.refused(on_p(("sum", val("x")), missing), ("no column", "a", 7))

    def test_operands_from_left_to_right_and_kinds_behind_them(self):
        self.refused(on_p(COUNT, ("=", col("a", 5), col("a", 6))), ("no column", "a", 5))
        self.refused(on_p(COUNT, ("=", col("a", 1), col("a", 6))), ("no column", "a", 6))
        self.refused(on_p(COUNT, ("=", col("b", 1), col("a", 6))), ("no column", "b", 1))
        self.refused(on_p((col("a", 1), col("a", 4), col("a", 3))), ("no column", "a", 4))

    def test_the_first_problem_of_drawn_queries(self):
        told = {}
        for seed in range(300):
            draw = random.Random(seed)
            tables = drawn_tables(draw, 2)
            for _ in range(4):
                query = spoiled_query(draw, drawn_query(draw, tables))
                problem = slow_problem(tables, query)
                told[problem and problem[0]] = told.get(problem and problem[0], 0) + 1
                if problem is None:
                    self.assertIsNone(check_query(look_at(tables), query))
                else:
                    self.refused(query, problem, tables)
        self.assertGreater(min(told.values()), 50)
        self.assertEqual(set(told), {None, "no table", "no column", "kinds"})


class Plans(QueryTest):
    def plans(self, query, expected, tables=TABLES):
        self.assertEqual(plans(look_at(tables), query), expected)
        self.assertEqual(slow_plans(tables, query), expected)

    def one(self, ways, *conditions, tables=TABLES, name="p"):
        """The ways of a plan with one step."""
        query = select(COUNT, (("a", name),), *conditions)
        self.plans(query, [(("a", way),) for way in [TABLE] + ways], tables)

    def test_one_source_by_values(self):
        self.one([])
        self.one([("key", 1)], ("=", col("a", 0), val(1)))
        self.one([("key", 1)], ("=", val(1), col("a", 0)))
        self.one([("index", "ta", 1), ("index", "town", 1)], ("=", col("a", 1), val("x")))
        self.one([("index", "ta", 1), ("index", "ta", 2), ("index", "town", 1)],
                 ("=", col("a", 2), val(1)), ("=", val("x"), col("a", 1)))
        self.one([], ("=", col("a", 2), val(1)))
        self.one([("key", 1), ("index", "ta", 1), ("index", "town", 1)],
                 ("=", col("a", 1), val("")), ("=", col("a", 0), val(1)))

    def test_what_gives_no_column(self):
        for operator in OPERATORS[1:]:
            self.one([], (operator, col("a", 0), val(1)), (operator, val(""), col("a", 1)))
        self.one([], ("=", col("a", 0), col("a", 0)), ("=", col("a", 0), col("a", 2)), ("=", val(1), val(1)))

    def test_keys_and_indexes_of_every_count(self):
        tables = {"t": made(2, "iiti", {"z": (3,), "b": (2, 1), "ba": (1, 2), "a": (0, 3), "b1": (2, 0)})}
        given = [("=", col("a", number), val("" if number == 2 else 1)) for number in range(4)]
        ways = {
            (): [], (0,): [("key", 1), ("index", "a", 1)], (1,): [("index", "ba", 1)],
            (2,): [("index", "b", 1), ("index", "b1", 1)], (3,): [("index", "z", 1)],
            (0, 1): [("key", 1), ("key", 2), ("index", "a", 1), ("index", "ba", 1)],
            (2, 1): [("index", "b", 1), ("index", "b", 2), ("index", "b1", 1), ("index", "ba", 1), ("index", "ba", 2)],
            (3, 0): [("key", 1), ("index", "a", 1), ("index", "a", 2), ("index", "z", 1)],
            (2, 0): [("key", 1), ("index", "a", 1), ("index", "b", 1), ("index", "b1", 1), ("index", "b1", 2)],
            (0, 1, 2, 3): [("key", 1), ("key", 2), ("index", "a", 1), ("index", "a", 2), ("index", "b", 1),
                           ("index", "b", 2), ("index", "b1", 1), ("index", "b1", 2), ("index", "ba", 1),
                           ("index", "ba", 2), ("index", "z", 1)],
        }
        for numbers, expected in ways.items():
            self.one(expected, *[given[number] for number in numbers], tables=tables, name="t")

    def test_two_sources_that_have_nothing_to_do_with_each_other(self):
        self.plans(select(COUNT, (("b", "p"), ("a", "c"))),
                   [(("b", TABLE), ("a", TABLE)), (("a", TABLE), ("b", TABLE))])
        self.plans(select(COUNT, (("a", "p"), ("b", "p")), ("<", col("a", 0), col("b", 0))),
                   [(("a", TABLE), ("b", TABLE)), (("b", TABLE), ("a", TABLE))])

    def test_columns_that_are_given_by_an_earlier_source(self):
        key, towns = ("key", 1), [("index", "ta", 1), ("index", "town", 1)]
        self.plans(select(COUNT, (("a", "p"), ("b", "c")), ("=", col("a", 1), col("b", 0))), [
            (("a", TABLE), ("b", TABLE)), (("a", TABLE), ("b", key)), (("b", TABLE), ("a", TABLE)),
            (("b", TABLE), ("a", towns[0])), (("b", TABLE), ("a", towns[1]))])

    def test_the_ways_of_the_first_step_change_last(self):
        key = ("key", 1)
        ta, town, both = ("index", "ta", 1), ("index", "town", 1), ("index", "ta", 2)
        query = select(COUNT, (("b", "c"), ("a", "p")), ("=", col("b", 0), val("ulm")), ("=", col("a", 1), col("b", 1)),
                       ("=", val(30), col("a", 2)))
        first = [(("b", way), ("a", other)) for way in (TABLE, key) for other in (TABLE, ta, both, town)]
        second = [(("a", TABLE), ("b", TABLE)), (("a", TABLE), ("b", key))]
        self.plans(query, first + second)

    def test_the_same_table_twice(self):
        key = ("key", 1)
        self.plans(select(COUNT, (("a", "p"), ("b", "p")), ("=", col("a", 0), col("b", 0))), [
            (("a", TABLE), ("b", TABLE)), (("a", TABLE), ("b", key)),
            (("b", TABLE), ("a", TABLE)), (("b", TABLE), ("a", key))])

    def test_drawn_queries(self):
        most = 0
        for seed in range(400):
            draw = random.Random(seed)
            tables = drawn_tables(draw, 3)
            for _ in range(4):
                query = drawn_query(draw, tables)
                look = look_at(tables)
                told = plans(look, query)
                self.assertEqual(told, slow_plans(tables, query))
                self.assertEqual(look.looks(), list(dict.fromkeys(first_looks(query))))
                self.assertEqual(len(set(told)), len(told))
                most = max(most, len(told))
        self.assertGreater(most, 30)


class Chosen(QueryTest):
    def test_the_least_number_of_table_steps_counts_first(self):
        low = (("a", ("key", 1)), ("b", ("key", 1)))
        high = (("a", TABLE), ("b", ("index", "i", 2)))
        none = (("a", TABLE), ("b", TABLE))
        for plans_list in itertools.permutations([low, high, none]):
            self.assertEqual(chosen(list(plans_list)), low)
        self.assertEqual(chosen([none, high]), high)
        self.assertEqual(chosen([none]), none)

    def test_then_the_greatest_sum_of_counts(self):
        ways = [("key", 1), ("index", "i", 1), ("index", "j", 2), ("key", 2)]
        plans_list = [(("a", first), ("b", second)) for first in ways for second in ways]
        self.assertEqual(chosen(plans_list), (("a", ways[2]), ("b", ways[2])))
        self.assertEqual(chosen(plans_list[::-1]), (("a", ways[3]), ("b", ways[3])))
        self.assertEqual(chosen([(("a", ways[0]), ("b", ways[3])), (("a", ways[3]), ("b", ways[2]))]),
                         (("a", ways[3]), ("b", ways[2])))

    def test_then_the_first_one(self):
        alike = [(("a", ("index", "z", 1)),), (("a", ("key", 1)),), (("a", ("index", "b", 1)),)]
        for plans_list in itertools.permutations(alike):
            self.assertEqual(chosen([(("a", TABLE),)] + list(plans_list)), plans_list[0])
        swapped = [(("b", TABLE), ("a", ("key", 1))), (("a", TABLE), ("b", ("key", 1)))]
        self.assertEqual((chosen(swapped), chosen(swapped[::-1])), (swapped[0], swapped[1]))

    def test_what_is_passed_stays(self):
        plans_list = [(("a", TABLE),), (("a", ("key", 1)),)]
        chosen(plans_list)
        self.assertEqual(plans_list, [(("a", TABLE),), (("a", ("key", 1)),)])

    def test_drawn_queries(self):
        for seed in range(200):
            draw = random.Random(seed)
            tables = drawn_tables(draw, 3)
            for _ in range(4):
                query = drawn_query(draw, tables)
                plans_list = slow_plans(tables, query)
                plan = slow_chosen(plans_list)
                self.assertEqual(chosen(plans_list), plan)
                shuffled = draw.sample(plans_list, len(plans_list))
                self.assertEqual(chosen(shuffled), slow_chosen(shuffled))
                look = look_at(tables)
                answer(look, query)
                self.assertEqual(look.looks(), slow_looks(tables, query, plan))


class Looks(QueryTest):
    def test_tables_and_indexes_first(self):
        both = (("a", "p"), ("b", "c"))
        for sources in (both, (("a", "p"),), both[::-1], (("x", "e"), ("y", "e"))):
            query = select(COUNT, sources)
            expected = list(dict.fromkeys(first_looks(query)))
            for name, call in all_ways(query).items():
                look = look_at(TABLES)
                call(look)
                self.assertEqual(look.looks()[:len(expected)], expected, name)
                if name in ("check_query", "plans"):
                    self.assertEqual(look.looks(), expected)
        self.assertEqual(first_looks(select(COUNT, both)),
                         [entry((0, "p")), prefix((1, "p")), entry((0, "c")), prefix((1, "c"))])

    def test_a_table(self):
        self.looks(on_p(COUNT), (("a", TABLE),), [prefix((2, "p"))])
        self.looks(select(COUNT, (("a", "e"),)), (("a", TABLE),), [prefix((2, "e"))])
        self.looks(on_p(COUNT, ("=", col("a", 0), val(1))), (("a", TABLE),), [prefix((2, "p"))])

    def test_a_key(self):
        self.looks(on_p(COUNT, ("=", col("a", 0), val(1))), (("a", ("key", 1)),), [prefix((2, "p", 1))])
        self.looks(on_p(COUNT, ("=", val(77), col("a", 0))), (("a", ("key", 1)),), [prefix((2, "p", 77))])
        tables = {"t": made(2, "it", {}, (1, "x"), (1, "y"))}
        query = select(COUNT, (("a", "t"),), ("=", col("a", 1), val("")), ("=", col("a", 0), val(1)))
        self.looks(query, (("a", ("key", 1)),), [prefix((2, "t", 1))], tables)
        self.looks(query, (("a", ("key", 2)),), [prefix((2, "t", 1, ""))], tables)

    def test_an_index_and_then_the_rows_by_their_keys_in_the_order_of_the_entries(self):
        by_town = ("=", col("a", 1), val("ulm"))
        self.looks(on_p(COUNT, by_town), (("a", ("index", "town", 1)),),
                   [prefix((3, "p", "town", "ulm")), entry((2, "p", 1)), entry((2, "p", 3))])
        # By the other index the younger one comes first, also if another condition does not hold for it.
        query = on_p(COUNT, by_town, (">", col("a", 2), val(29)))
        self.looks(query, (("a", ("index", "ta", 1)),),
                   [prefix((3, "p", "ta", "ulm")), entry((2, "p", 3)), entry((2, "p", 1))])
        query = on_p(COUNT, by_town, ("=", val(30), col("a", 2)))
        self.looks(query, (("a", ("index", "ta", 2)),), [prefix((3, "p", "ta", "ulm", 30)), entry((2, "p", 1))])
        self.looks(on_p(COUNT, ("=", col("a", 1), val("oslo"))), (("a", ("index", "ta", 1)),),
                   [prefix((3, "p", "ta", "oslo"))])

    def test_two_steps(self):
        sources = (("a", "p"), ("b", "c"))
        query = select(COUNT, sources, ("=", col("a", 1), col("b", 0)))
        self.looks(query, (("a", TABLE), ("b", ("key", 1))), [
            prefix((2, "p")), prefix((2, "c", "ulm")), prefix((2, "c", "bonn")), prefix((2, "c", "")),
            prefix((2, "c", "rome"))])
        self.looks(query, (("b", TABLE), ("a", ("index", "town", 1))), [
            prefix((2, "c")), prefix((3, "p", "town", "bonn")), entry((2, "p", 2)), prefix((3, "p", "town", "oslo")),
            prefix((3, "p", "town", "rome")), entry((2, "p", 5)), prefix((3, "p", "town", "ulm")), entry((2, "p", 1)),
            entry((2, "p", 3))])
        self.looks(query, (("b", TABLE), ("a", TABLE)), [prefix((2, "c")), prefix((2, "p"))])

    def test_a_condition_is_tested_at_the_step_with_which_its_sources_have_rows(self):
        sources = (("a", "p"), ("b", "c"))
        joined = ("=", col("a", 1), col("b", 0))
        by_key = (("a", TABLE), ("b", ("key", 1)))
        self.looks(select(COUNT, sources, joined, (">", col("a", 2), val(35))), by_key,
                   [prefix((2, "p")), prefix((2, "c", ""))])
        self.looks(select(COUNT, sources, joined, ("<", col("a", 0), col("a", 2)), ("=", val(1), col("a", 0))), by_key,
                   [prefix((2, "p")), prefix((2, "c", "ulm"))])
        self.looks(select(COUNT, sources, joined, ("<", col("a", 2), val(0))), by_key, [prefix((2, "p"))])
        by_index = (("b", TABLE), ("a", ("index", "ta", 1)))
        self.looks(select(COUNT, sources, joined, ("=", col("b", 1), val("it"))), by_index,
                   [prefix((2, "c")), prefix((3, "p", "ta", "rome")), entry((2, "p", 5))])

    def test_a_condition_of_two_values_that_does_not_hold_ends_the_first_step(self):
        sources = (("a", "p"), ("b", "c"))
        false = ("=", val(1), val(2))
        for plan in ((("a", TABLE), ("b", TABLE)), (("a", TABLE), ("b", ("key", 1)))):
            self.looks(select(COUNT, sources, ("=", col("a", 1), col("b", 0)), false), plan, [prefix((2, "p"))])
        self.looks(on_p(COUNT, ("=", col("a", 1), val("ulm")), false), (("a", ("index", "town", 1)),),
                   [prefix((3, "p", "town", "ulm")), entry((2, "p", 1)), entry((2, "p", 3))])

    def test_no_rows_at_the_first_step(self):
        query = select(COUNT, (("a", "e"), ("b", "c")))
        self.looks(query, (("a", TABLE), ("b", TABLE)), [prefix((2, "e"))])
        self.looks(query, (("b", TABLE), ("a", TABLE)), [prefix((2, "c")), prefix((2, "e"))])

    def test_the_first_of_several_conditions_that_give_a_column(self):
        ulm, bonn = ("=", col("a", 1), val("ulm")), ("=", val("bonn"), col("a", 1))
        by_town = (("a", ("index", "town", 1)),)
        self.looks(on_p(COUNT, ulm, bonn), by_town,
                   [prefix((3, "p", "town", "ulm")), entry((2, "p", 1)), entry((2, "p", 3))])
        self.looks(on_p(COUNT, bonn, ulm), by_town, [prefix((3, "p", "town", "bonn")), entry((2, "p", 2))])
        sources = (("a", "p"), ("b", "c"))
        joined, given = ("=", col("b", 0), col("a", 1)), ("=", col("b", 0), val("oslo"))
        behind = (("a", ("key", 1)), ("b", ("key", 1)))
        one = ("=", col("a", 0), val(1))
        self.looks(select(COUNT, sources, one, joined, given), behind, [prefix((2, "p", 1)), prefix((2, "c", "ulm"))])
        self.looks(select(COUNT, sources, one, given, joined), behind, [prefix((2, "p", 1)), prefix((2, "c", "oslo"))])
        # Before the other source has rows, it gives nothing.
        self.looks(select(COUNT, sources, joined, given), (("b", ("key", 1)), ("a", ("index", "town", 1))),
                   [prefix((2, "c", "oslo")), prefix((3, "p", "town", "oslo"))])

    def test_the_same_table_twice(self):
        query = select(COUNT, (("a", "p"), ("b", "p")), ("=", col("a", 0), val(2)), ("=", col("b", 1), col("a", 1)))
        self.looks(query, (("a", ("key", 1)), ("b", ("index", "town", 1))),
                   [prefix((2, "p", 2)), prefix((3, "p", "town", "bonn")), entry((2, "p", 2))])
        self.looks(query, (("a", TABLE), ("b", TABLE)), [prefix((2, "p"))])

    def test_plain_looks_at_the_tables_as_the_sources_stand(self):
        for sources in ((("a", "p"), ("b", "c")), (("b", "c"), ("a", "p"))):
            look = look_at(TABLES)
            query = select(COUNT, sources, ("=", col("a", 1), col("b", 0)), ("=", col("a", 0), val(1)))
            plain(look, query)
            self.assertEqual(look.looks(), first_looks(query) + [prefix((2, name)) for _, name in sources])

    def test_answer_looks_at_what_the_chosen_plan_looks_at(self):
        look = look_at(TABLES)
        query = on_p((col("a", 0),), ("=", col("a", 2), val(30)), ("=", col("a", 1), val("rome")))
        self.assertEqual(answer(look, query), [(5,)])
        self.assertEqual(look.looks(), first_looks(query) + [prefix((3, "p", "ta", "rome", 30)), entry((2, "p", 5))])

    def test_drawn_queries_by_all_plans(self):
        for seed in range(200):
            draw = random.Random(seed)
            tables = drawn_tables(draw)
            for _ in range(3):
                query = drawn_query(draw, tables)
                for plan in slow_plans(tables, query):
                    look = look_at(tables, draw)
                    run_plan(look, query, plan)
                    self.assertEqual(look.looks(), slow_looks(tables, query, plan), (query, plan))
                look = look_at(tables)
                plain(look, query)
                plan = tuple((alias, TABLE) for alias, _ in query[2])
                self.assertEqual(look.looks(), slow_looks(tables, query, plan))

    def test_the_answer_depends_only_on_the_entries_that_were_looked_at(self):
        # All entries outside of the ranges are taken away or changed: the answer and the looks stay.
        for seed in range(150):
            draw = random.Random(seed)
            tables = drawn_tables(draw)
            query = drawn_query(draw, tables)
            look = look_at(tables)
            told = answer(look, query)
            spans = look.looks()
            others = {key: draw.choice((None, (1, 0), ("other",))) for key in map_of(tables)
                      if not any(low <= key < high for low, high in spans)}
            again = Look(tree_of(map_of(tables)), others)
            self.assertEqual((answer(again, query), again.looks()), (told, spans))


class WhatIsPassedAndTold(QueryTest):
    def test_what_is_told_can_be_changed(self):
        look = look_at(TABLES)
        query = on_p((col("a", 0),), ("=", col("a", 1), val("ulm")))
        for call in (plans, answer, plain):
            call(look, query).clear()
        self.assertEqual(answer(look, query), [(1,), (3,)])
        self.assertEqual(len(plans(look, query)), 3)

    def test_tuples_stay(self):
        query = on_p((col("a", 0),), ("=", col("a", 1), val("ulm")))
        told = copy.deepcopy(query)
        for call in all_ways(query).values():
            call(look_at(TABLES))
        self.assertEqual(query, told)

    def test_check_query_returns_nothing(self):
        self.assertIsNone(check_query(look_at(TABLES), on_p(COUNT)))

    def test_values_of_all_kinds_as_outputs(self):
        self.answers(select(tuple(val(value) for value in VALUES), (("a", "c"),)), [tuple(VALUES)] * 4)


if __name__ == "__main__":
    unittest.main()
