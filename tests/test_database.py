"""Points [3] and [26] to [32]: databases, their sessions and their views, as long as power stays."""

import random
import unittest

from databases import CREATE, QUERY, SlowDatabase, SlowSession, check_serial, drawn_step, key_is, outcome, put_in
from samples import slow_key
from tables import drawn_query, map_of, slow_answer, slow_problem
from sameanswer.database import Database, KeptView, Session
from sameanswer.disk import Disk
from sameanswer.errors import (
    AnswerError, DatabaseOpen, DiskFull, NoTransaction, PowerOff, Refused, TransactionOpen,
)
from sameanswer.store import Store

OTHER = ("create", "u", ("text",), 1)


def opened(*statements, sectors=100):
    """A disk, and a database of it in which the statements were run."""
    disk = Disk(sectors)
    database = Database(disk)
    for statement in statements:
        database.session().run(statement)
    return disk, database


def rows(session):
    return session.run(QUERY)


class DatabaseTest(unittest.TestCase):
    def raises(self, error, call, *arguments):
        """The call raises just this error, which is one of the program and of no other class of it."""
        with self.assertRaises(error) as caught:
            call(*arguments)
        self.assertIs(caught.exception.__class__, error)
        self.assertIsInstance(caught.exception, AnswerError)
        self.assertIsInstance(caught.exception, ValueError)

    def refused(self, problem, call, *arguments):
        with self.assertRaises(Refused) as caught:
            call(*arguments)
        self.assertEqual(caught.exception.problem, problem)


class Openings(DatabaseTest):
    def test_a_new_disk(self):
        for sectors in (100, 321, 600):
            disk = Disk(sectors)
            self.assertIs(disk.in_use, False)
            database = Database(disk)
            self.assertIs(disk.in_use, True)
            self.assertEqual((database.commits(), database.entries(), database.pages()), (0, [], 0))
            self.assertEqual((disk.counts(), disk.pending()), ((1, 1), 0))

    def test_a_database_that_is_open(self):
        disk, database = opened(CREATE, put_in(1))
        counts = disk.counts()
        for _ in range(2):
            self.raises(DatabaseOpen, Database, disk)
        self.assertEqual((disk.counts(), disk.in_use, database.commits()), (counts, True, 2))
        self.assertEqual(rows(database.session()), [(1, "x")])
        del database
        self.raises(DatabaseOpen, Database, disk)

    def test_a_disk_with_commits(self):
        disk, first = opened(CREATE, put_in(1), put_in(2))
        told = first.commits(), first.entries(), first.pages()
        disk.power([])
        self.assertIs(disk.in_use, False)
        counts = disk.counts()
        second = Database(disk)
        self.assertEqual((second.commits(), second.entries(), second.pages()), told)
        self.assertEqual(told[0], 3)
        self.assertEqual((disk.counts(), disk.in_use), (counts, True))
        self.assertEqual(rows(second.session()), [(1, "x"), (2, "x")])

    def test_what_a_store_committed(self):
        disk = Disk(100)
        Store(disk).commit([(slow_key((0, "t")), (1, 0, 1)), (slow_key((2, "t", 5)), (5, "y"))])
        database = Database(disk)
        self.assertEqual((database.commits(), rows(database.session())), (1, [(5, "y")]))

    def test_without_power(self):
        for disk in (Disk(100), opened(CREATE)[0]):
            disk.fail_after(0)
            with self.assertRaises(PowerOff):
                disk.sync()
            for _ in range(2):
                self.raises(PowerOff, Database, disk)
                self.assertIs(disk.in_use, False)

    def test_databases_of_several_disks(self):
        first, second = opened(CREATE)[1], opened(OTHER)[1]
        self.assertEqual(len(first.entries()), 1)
        self.raises(Refused, second.session().run, put_in(1))
        self.assertIsNone(first.session().run(put_in(1)))


class Example(DatabaseTest):
    def test_the_example_of_the_interface(self):
        database = Database(Disk(100))
        a, b = database.session(), database.session()
        self.assertIsNone(a.run(("create", "t", ("integer", "text"), 1)))
        self.assertIsNone(a.begin())
        self.assertIsNone(a.run(("insert", "t", (1, "x"))))
        self.assertIsNone(b.run(("insert", "t", (1, "y"))))
        self.assertEqual(a.commit(), (0, ("problem", ("exists", (1,)))))
        self.assertEqual(a.reruns(), 1)
        condition = ("=", ("column", "s", 0), ("value", 1))
        self.assertEqual(b.run(("select", (("column", "s", 1),), (("s", "t"),), (condition,))), [("y",)])


class Contents(DatabaseTest):
    def test_entries_commits_and_pages(self):
        _, database = opened()
        session, slow = database.session(), SlowDatabase(100)
        other = SlowSession(slow, [])
        statements = [CREATE, put_in(1), ("index", "t", "i", (1, 0))] + [put_in(number) for number in range(5, 30, 3)]
        for statement in statements + [("delete", "t", (("<", ("column", "t", 0), ("value", 20)),)), ("drop", "t")]:
            self.assertEqual(outcome(session.run, statement), other.run(statement))
            self.assertEqual((database.commits(), database.entries(), database.pages()),
                             (slow.commits, slow.entries(), len(slow.pages)))
        self.assertEqual((database.commits(), database.entries(), database.pages()), (len(statements) + 2, [], 0))

    def test_entries_by_hand(self):
        _, database = opened(CREATE, ("index", "t", "i", (1,)), put_in(1, "b"), put_in(-1, "a"))
        self.assertEqual(database.entries(), [
            (slow_key((0, "t")), (1, 0, 1)), (slow_key((1, "t", "i")), (1,)), (slow_key((2, "t", -1)), (-1, "a")),
            (slow_key((2, "t", 1)), (1, "b")), (slow_key((3, "t", "i", "a", -1)), ()),
            (slow_key((3, "t", "i", "b", 1)), ()),
        ])

    def test_a_list_that_is_changed(self):
        _, database = opened(CREATE)
        database.entries().clear()
        self.assertEqual(len(database.entries()), 1)

    def test_what_is_made(self):
        _, database = opened(CREATE)
        self.assertIsInstance(database.session(), Session)
        self.assertIsNot(database.session(), database.session())
        self.assertIsInstance(database.view(QUERY), KeptView)


class Statements(DatabaseTest):
    """Point [29]: statements outside of transactions."""

    def test_each_is_a_commit(self):
        disk, database = opened()
        session = database.session()
        for number, (statement, answer) in enumerate((
            (CREATE, None), (put_in(1), None), (("index", "t", "i", (1,)), None),
            (("update", "t", ((1, ("value", "y")),), ()), 1), (("delete", "t", ()), 1), (("drop", "t"), None),
        ), 1):
            before = disk.counts()[1]
            self.assertEqual(session.run(statement), answer)
            self.assertEqual((database.commits(), disk.counts()[1] - before), (number, 2))

    def test_what_stores_nothing(self):
        disk, database = opened(CREATE, put_in(1))
        session = database.session()
        counts = disk.counts()
        self.assertEqual(session.run(QUERY), [(1, "x")])
        self.assertEqual(session.run(("update", "t", ((1, ("value", "x")),), ())), 1)
        self.assertEqual(session.run(("update", "t", (), ())), 1)
        self.assertEqual(session.run(("delete", "t", (key_is(7),))), 0)
        for statement, problem in ((put_in(1), ("exists", (1,))), (("drop", "x"), ("no table", "x"))):
            self.refused(problem, session.run, statement)
        self.assertEqual((disk.counts(), database.commits()), (counts, 2))

    def test_sessions_see_each_other_at_once(self):
        _, database = opened(CREATE)
        first, second = database.session(), database.session()
        first.run(put_in(1))
        self.assertEqual(rows(second), [(1, "x")])
        self.refused(("exists", (1,)), second.run, put_in(1))
        second.run(("drop", "t"))
        self.refused(("no table", "t"), first.run, put_in(2))

    def test_answers_that_are_changed(self):
        _, database = opened(CREATE, put_in(1))
        session = database.session()
        rows(session).clear()
        self.assertEqual(rows(session), [(1, "x")])


class Transactions(DatabaseTest):
    def test_begin_commit_and_rollback(self):
        disk, database = opened(CREATE)
        session, other = database.session(), database.session()
        self.assertIsNone(session.begin())
        session.run(put_in(1))
        counts = disk.counts()
        session.run(put_in(2))
        self.assertEqual((rows(session), rows(other)), ([(1, "x"), (2, "x")], []))
        self.assertEqual((disk.counts(), database.commits()), (counts, 1))
        self.assertIsNone(session.commit())
        self.assertEqual((rows(session), rows(other), database.commits()), ([(1, "x"), (2, "x")],) * 2 + (2,))
        session.begin()
        session.run(("delete", "t", ()))
        self.assertEqual((rows(session), rows(other)), ([], [(1, "x"), (2, "x")]))
        self.assertIsNone(session.rollback())
        self.assertEqual((rows(session), database.commits()), ([(1, "x"), (2, "x")], 2))

    def test_a_second_begin(self):
        _, database = opened(CREATE)
        session = database.session()
        session.begin()
        session.run(put_in(1))
        for _ in range(2):
            self.raises(TransactionOpen, session.begin)
        self.assertIsNone(database.session().begin())
        self.assertEqual(rows(session), [(1, "x")])
        self.assertIsNone(session.commit())
        self.assertEqual(database.commits(), 2)
        self.assertIsNone(session.begin())

    def test_no_transaction(self):
        _, database = opened(CREATE)
        session = database.session()
        for _ in range(2):
            self.raises(NoTransaction, session.commit)
            self.raises(NoTransaction, session.rollback)
        session.begin()
        session.commit()
        self.raises(NoTransaction, session.commit)
        session.begin()
        session.rollback()
        self.raises(NoTransaction, session.rollback)
        database.session().begin()
        self.raises(NoTransaction, session.commit)
        self.assertEqual(database.commits(), 1)

    def test_the_base_is_what_is_committed_at_the_begin(self):
        _, database = opened(CREATE, put_in(1))
        session, other = database.session(), database.session()
        session.begin()
        other.run(put_in(2))
        other.run(("delete", "t", (key_is(1),)))
        self.assertEqual(rows(session), [(1, "x")])
        other.run(("drop", "t"))
        self.assertEqual(rows(session), [(1, "x")])
        session.rollback()
        self.refused(("no table", "t"), session.run, QUERY)

    def test_commits_that_store_nothing(self):
        disk, database = opened(CREATE, put_in(1))
        session = database.session()
        for statements in ([], [QUERY], [put_in(2), ("delete", "t", (key_is(2),))],
                           [("delete", "t", ()), put_in(1)], [("update", "t", ((1, ("value", "x")),), ())]):
            counts = disk.counts()
            session.begin()
            for statement in statements:
                session.run(statement)
            self.assertIsNone(session.commit())
            self.assertEqual((disk.counts(), database.commits()), (counts, 2))

    def test_the_same_change_by_two_sessions(self):
        disk, database = opened(CREATE, put_in(1))
        first, second = database.session(), database.session()
        for session in (first, second):
            session.begin()
            self.assertEqual(session.run(("update", "t", ((1, ("value", "y")),), ())), 1)
        self.assertIsNone(first.commit())
        counts = disk.counts()
        self.assertIsNone(second.commit())
        self.assertEqual((disk.counts(), database.commits(), second.reruns()), (counts, 3, 1))

    def test_refused_commits(self):
        disk, database = opened(CREATE, put_in(1))
        session, other = database.session(), database.session()
        session.begin()
        session.run(put_in(2))
        session.run(QUERY)
        other.run(put_in(3))
        counts = disk.counts()
        self.assertEqual(session.commit(), (1, ("answer", [(1, "x"), (2, "x"), (3, "x")])))
        self.assertEqual((disk.counts(), database.commits(), session.reruns()), (counts, 3, 1))
        self.raises(NoTransaction, session.commit)
        self.assertEqual(rows(session), [(1, "x"), (3, "x")])
        session.begin()
        session.run(put_in(2))
        self.assertIsNone(session.commit())

    def test_a_list_that_was_told_by_a_refused_commit(self):
        _, database = opened(CREATE)
        session, other = database.session(), database.session()
        session.begin()
        told = session.run(QUERY)
        told.append("more")
        other.run(put_in(3))
        answer = session.commit()
        self.assertEqual(answer, (0, ("answer", [(3, "x")])))
        answer[1][1].clear()
        self.assertEqual(rows(session), [(3, "x")])

    def test_refused_statements_are_noted(self):
        _, database = opened(CREATE, put_in(1))
        session, other = database.session(), database.session()
        session.begin()
        self.refused(("exists", (1,)), session.run, put_in(1))
        session.run(put_in(2))
        other.run(("delete", "t", (key_is(1),)))
        self.assertEqual(session.commit(), (0, ("answer", None)))
        session.begin()
        self.refused(("no table", "u"), session.run, ("drop", "u"))
        other.run(put_in(5))
        self.assertIsNone(session.commit())
        self.assertEqual(session.reruns(), 0)

    def test_reruns(self):
        _, database = opened(CREATE, put_in(1), OTHER)
        session, other = database.session(), database.session()
        self.assertEqual(session.reruns(), 0)
        count = ("select", ("count",), (("s", "t"),), (("=", ("column", "s", 0), ("value", 1)),))

        def transaction(*between):
            session.begin()
            for statement in (count, ("select", ("count",), (("s", "u"),), ()), QUERY):
                session.run(statement)
            for statement in between:
                other.run(statement)
            return session.commit()

        self.assertEqual((transaction(), session.reruns()), (None, 0))
        self.assertEqual((transaction(put_in(2)), session.reruns()), ((2, ("answer", [(1, "x"), (2, "x")])), 1))
        self.raises(NoTransaction, session.commit)
        self.raises(NoTransaction, session.rollback)
        session.run(put_in(3))
        self.assertEqual(session.reruns(), 1)
        session.begin()
        session.run(QUERY)
        self.raises(TransactionOpen, session.begin)
        session.rollback()
        self.assertEqual((session.reruns(), other.reruns()), (1, 0))
        index = ("index", "t", "i", (0,))
        self.assertEqual((transaction(index), session.reruns()), (None, 2))
        self.assertEqual((transaction(("insert", "u", ("a",))), session.reruns()), ((1, ("answer", [(1,)])), 1))
        self.assertEqual((transaction(), session.reruns()), (None, 0))

    def test_what_a_commit_makes_of_what_others_committed(self):
        _, database = opened(CREATE, put_in(1))
        session, other = database.session(), database.session()
        session.begin()
        self.assertEqual(session.run(("delete", "t", (key_is(1),))), 1)
        self.assertIsNone(session.run(put_in(5, "new")))
        other.run(("update", "t", ((1, ("value", "y")),), ()))
        other.run(("index", "t", "i", (1,)))
        self.assertIsNone(session.commit())
        self.assertEqual(session.reruns(), 2)
        self.assertEqual(database.entries(), sorted(map_of({
            "t": (1, ("integer", "text"), {"i": (1,)}, {(5,): (5, "new")})}).items()))


class FullDisks(DatabaseTest):
    def with_rows(self, many):
        """A disk of 100 sectors with a table of so many rows, which also have entries in an index, and its database."""
        disk, database = opened(CREATE, ("index", "t", "i", (1, 0)))
        session = database.session()
        session.begin()
        for number in range(many):
            session.run(put_in(number, "wwwwww"))
        session.commit()
        return disk, database

    def state(self, disk, database):
        return disk.counts(), database.commits(), database.entries(), database.pages()

    def test_statements(self):
        disk, database = self.with_rows(280)
        session = database.session()
        many = 280
        while outcome(session.run, put_in(many, "wwwwww")) != "DiskFull":
            many += 1
        before = self.state(disk, database)
        for _ in range(2):
            self.raises(DiskFull, session.run, put_in(many, "wwwwww"))
            self.assertEqual(self.state(disk, database), before)
        self.assertEqual(len(rows(session)), many)
        self.assertEqual(session.run(("delete", "t", (key_is(-1),))), 0)
        self.refused(("exists", (7,)), session.run, put_in(7))
        self.assertEqual(session.run(("delete", "t", ())), many)
        self.assertIsNone(session.run(put_in(many, "wwwwww")))
        self.assertEqual((rows(session), database.commits()), ([(many, "wwwwww")], before[1] + 2))

    def test_a_commit(self):
        disk, database = self.with_rows(150)
        session = database.session()
        session.begin()
        for number in range(150, 450):
            self.assertIsNone(session.run(put_in(number, "wwwwww")))
        self.assertEqual(len(rows(session)), 450)
        before = self.state(disk, database)
        self.raises(DiskFull, session.commit)
        self.assertEqual(self.state(disk, database), before)
        self.raises(NoTransaction, session.commit)
        self.raises(NoTransaction, session.rollback)
        self.assertEqual((len(rows(session)), session.reruns()), (150, 0))
        self.assertIsNone(session.begin())
        self.assertIsNone(session.run(put_in(-1)))
        self.assertIsNone(session.commit())
        self.assertEqual((len(rows(session)), database.commits()), (151, before[1] + 1))

    def test_reruns_of_a_commit_for_which_the_disk_has_no_room(self):
        _, database = self.with_rows(150)
        session, other = database.session(), database.session()
        session.begin()
        total = ("select", ("sum", ("column", "s", 0)), (("s", "t"),), (("=", ("column", "s", 0), ("value", 3)),))
        self.assertEqual(session.run(total), [(3,)])
        for number in range(150, 450):
            session.run(put_in(number, "wwwwww"))
        self.assertEqual(other.run(("update", "t", ((1, ("value", "v")),), (key_is(3),))), 1)
        self.raises(DiskFull, session.commit)
        self.assertEqual(session.reruns(), 1)

    def test_another_answer_comes_before_a_full_disk(self):
        _, database = self.with_rows(150)
        session, other = database.session(), database.session()
        session.begin()
        for number in range(150, 450):
            session.run(put_in(number, "wwwwww"))
        other.run(put_in(449))
        self.assertEqual(session.commit(), (299, ("problem", ("exists", (449,)))))
        self.assertEqual(session.reruns(), 1)

    def test_exactly_if_the_free_sectors_are_too_few(self):
        told = {}
        for seed in range(3):
            draw = random.Random(seed)
            _, database = opened()
            slow = SlowDatabase(100)
            session, other = database.session(), SlowSession(slow, [])
            statements = [CREATE, ("index", "t", "i", (1, 0)), ("index", "t", "j", (0,))]
            for _ in range(120):
                number = draw.randrange(400)
                statements.append(draw.choice((
                    put_in(number, "wwwwww"), put_in(number, "wwwwww"), put_in(number, "wwwwww"),
                    ("delete", "t", (("=", ("column", "t", 1), ("value", draw.choice("abc"))),)),
                    ("update", "t", ((1, ("value", draw.choice("abc"))),), (key_is(number),)))))
            for statement in statements:
                result = outcome(session.run, statement)
                self.assertEqual(result, other.run(statement))
                told[result[0]] = told.get(result[0], 0) + 1
            self.assertEqual((database.entries(), database.pages()), (slow.entries(), len(slow.pages)))
        self.assertGreater(told["D"], 10)


class Views(DatabaseTest):
    def test_asking(self):
        _, database = opened(CREATE, put_in(1))
        session = database.session()
        view = database.view(QUERY)
        self.assertEqual((view.ask(), view.runs()), ([(1, "x")], 1))
        session.run(OTHER)
        self.assertEqual((view.ask(), view.runs()), ([(1, "x")], 1))
        session.run(put_in(2))
        self.assertEqual(view.runs(), 1)
        for _ in range(2):
            self.assertEqual((view.ask(), view.runs()), ([(1, "x"), (2, "x")], 2))
        session.begin()
        session.run(put_in(3))
        self.assertEqual((view.ask(), view.runs()), ([(1, "x"), (2, "x")], 2))
        session.commit()
        view.ask().clear()
        self.assertEqual((view.ask(), view.runs()), ([(1, "x"), (2, "x"), (3, "x")], 3))

    def test_refused(self):
        _, database = opened(CREATE, put_in(1))
        session = database.session()
        self.refused(("no table", "u"), database.view, ("select", ("count",), (("s", "u"),), ()))
        self.refused(("no column", "s", 2), database.view, ("select", (("column", "s", 2),), (("s", "t"),), ()))
        view = database.view(QUERY)
        session.run(("drop", "t"))
        for _ in range(2):
            self.refused(("no table", "t"), view.ask)
            self.assertEqual(view.runs(), 1)
        session.run(("create", "t", ("integer",), 1))
        self.refused(("no column", "s", 1), view.ask)
        session.run(("drop", "t"))
        session.run(CREATE)
        self.assertEqual((view.ask(), view.runs()), ([], 2))

    def test_a_view_makes_no_commit(self):
        disk, database = opened(CREATE, put_in(1))
        counts = disk.counts()
        database.view(QUERY).ask()
        self.assertEqual((disk.counts(), database.commits()), (counts, 2))

    def test_views_are_apart(self):
        _, database = opened(CREATE, put_in(1))
        first, second = database.view(QUERY), database.view(QUERY)
        database.session().run(put_in(2))
        first.ask()
        self.assertEqual((first.runs(), second.runs()), (2, 1))


class Drawn(DatabaseTest):
    """Points [2] and [32]: several sessions in drawn orders."""

    def test_sessions_and_views_in_drawn_orders(self):
        counts = {}
        for seed in range(60):
            draw = random.Random(seed)
            sectors = draw.choice((100, 200, 600))
            _, database = opened(sectors=sectors)
            slow, committed = SlowDatabase(sectors), []
            pairs = [(database.session(), SlowSession(slow, committed)) for _ in range(draw.randrange(1, 5))]
            views = []
            for _ in range(60):
                session, other = draw.choice(pairs)
                step = drawn_step(draw, other)
                result = outcome(getattr(session, step[0]), *step[1:])
                self.assertEqual(result, getattr(other, step[0])(*step[1:]), step)
                self.assertEqual((session.reruns(), database.commits()), (other.count, slow.commits))
                if step == ("commit",):
                    case = result if isinstance(result, str) else (result[1] is None, other.count > 0)
                    counts[case] = counts.get(case, 0) + 1
                if draw.randrange(5) == 0:
                    self.with_views(draw, database, slow, views)
                if draw.randrange(10) == 0:
                    self.assertEqual((database.entries(), database.pages()), (slow.entries(), len(slow.pages)))
            check_serial(self, committed, database.entries())
        self.assertEqual(set(counts), {(True, False), (True, True), (False, True), "NoTransaction"})
        self.assertGreater(min(counts.values()), 20)

    def with_views(self, draw, database, slow, views):
        """A new view, or an old one is asked."""
        if slow.tables and (not views or draw.randrange(3) == 0):
            query = drawn_query(draw, slow.tables)
            views.append((database.view(query), query))
        elif views:
            view, query = draw.choice(views)
            problem = slow_problem(slow.tables, query)
            told = ("problem", problem) if problem else ("answer", slow_answer(slow.tables, query))
            self.assertEqual(outcome(view.ask), told)


if __name__ == "__main__":
    unittest.main()
