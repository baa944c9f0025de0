"""Points [2], [16], [31] and [32]: databases whose disk loses its power at any operation."""

import copy
import itertools
import random
import unittest

from databases import CREATE, QUERY, SlowDatabase, SlowSession, check_serial, drawn_step, key_is, outcome, put_in
from sameanswer.database import Database
from sameanswer.disk import Disk
from sameanswer.errors import AnswerError, DatabaseClosed, DatabaseOpen, PowerOff

FILLED = [CREATE, ("index", "t", "i", (1, 0))] + [put_in(number) for number in range(20)]


def disk_with(*statements):
    """A disk on which the statements were committed, with no database open."""
    disk = Disk(100)
    session = Database(disk).session()
    for statement in statements:
        session.run(statement)
    disk.power([])
    return disk


def subsets(many):
    """All lists of booleans for so many writes; a part of them if they are more than five."""
    if many <= 5:
        return [list(kept) for kept in itertools.product((False, True), repeat=many)]
    draw = random.Random(many)
    some = [[draw.randrange(2) == 1 for _ in range(many)] for _ in range(8)]
    return some + [[], [True] * many, [False] * (many - 1) + [True], [True] * (many - 1)]


def state(database):
    return database.commits(), database.entries()


class PowerTest(unittest.TestCase):
    def closed(self, database, sessions, views):
        """Every method raises DatabaseClosed, whatever else would be wrong with the call."""
        calls = [(database.session,), (database.commits,), (database.entries,), (database.pages,),
                 (database.view, QUERY), (database.view, ("select", ("count",), (("s", "none"),), ()))]
        for session in sessions:
            calls += [(session.run, QUERY), (session.run, put_in(99)), (session.run, ("drop", "none")),
                      (session.begin,), (session.commit,), (session.rollback,), (session.reruns,), (session.begin,)]
        for view in views:
            calls += [(view.ask,), (view.runs,)]
        for call, *arguments in calls:
            with self.assertRaises(DatabaseClosed) as caught:
                call(*arguments)
            self.assertIs(caught.exception.__class__, DatabaseClosed)
            self.assertIsInstance(caught.exception, AnswerError)

    def cut(self, disk, act, operations):
        """True if power fails in act on a copy of the disk; then the database is closed and the copy is told, too."""
        disk = copy.deepcopy(disk)
        database = Database(disk)
        sessions = [database.session() for _ in range(3)]
        sessions[1].begin()
        sessions[2].begin()
        views = [database.view(QUERY)]
        prepared = act(sessions[0], sessions[1])
        disk.fail_after(operations)
        try:
            prepared()
        except PowerOff as error:
            self.assertIs(error.__class__, PowerOff)
            self.assertEqual((disk.is_on(), disk.in_use), (False, False))
            self.closed(database, sessions, views)
            return disk, (database, sessions, views)
        self.assertEqual((disk.is_on(), disk.in_use), (True, True))
        return None, state(database)


class EachOperation(PowerTest):
    def each_cut(self, disk, act):
        """Power fails at each operation of act; returns how many there are."""
        base = copy.deepcopy(disk)
        before = state(Database(base))
        _, after = self.cut(disk, act, 10 ** 6)
        operations = 0
        while True:
            broken, closed = self.cut(disk, act, operations)
            if broken is None:
                return operations
            for kept in subsets(broken.pending()):
                self.found(broken, kept, before, after)
            broken.power([True])
            self.closed(*closed)
            again = Database(broken)
            self.assertIs(broken.in_use, True)
            self.closed(*closed)
            again.session().run(("create", "other", ("text",), 1))
            self.closed(*closed)
            operations += 1

    def found(self, broken, kept, before, after):
        """What the next opening finds is one of both states, as a whole; the last sync alone has a head waiting."""
        disk = copy.deepcopy(broken)
        with self.assertRaises(PowerOff):
            Database(disk)
        disk.power(kept)
        self.assertIs(disk.in_use, False)
        database = Database(disk)
        self.assertIn(state(database), (before, after))
        with self.assertRaises(DatabaseOpen):
            Database(disk)
        # It goes on from what it found.
        commits = database.commits()
        self.assertIsNone(database.session().run(("create", "more", ("text",), 1)))
        disk.power([])
        self.assertEqual(Database(disk).commits(), commits + 1)

    def test_statements(self):
        disk = disk_with(*FILLED)
        for statement in (put_in(99), ("delete", "t", (key_is(3),)), ("drop", "t"), ("unindex", "t", "i"),
                          ("update", "t", ((1, ("value", "y")),), ())):
            self.assertGreater(self.each_cut(disk, lambda session, _: lambda: session.run(statement)), 2)

    def test_the_first_statement(self):
        disk = disk_with(CREATE)
        self.assertEqual(self.each_cut(disk, lambda session, _: lambda: session.run(put_in(1))), 4)
        self.assertEqual(self.each_cut(disk, lambda session, _: lambda: session.run(("drop", "t"))), 3)

    def test_commits(self):
        def act(session, other):
            session.begin()
            session.run(("insert", "t", (50, "new")))
            session.run(("update", "t", ((1, ("value", "z")),), (key_is(3),)))
            session.run(("delete", "t", (("<", ("column", "t", 0), ("value", 2)),)))
            return session.commit

        self.assertGreater(self.each_cut(disk_with(*FILLED), act), 5)

    def test_what_makes_no_operation(self):
        def query(session, _):
            return lambda: session.run(QUERY)

        def refused(session, _):
            session.begin()
            session.run(QUERY)
            return session.commit

        def empty(session, _):
            session.begin()
            return session.commit

        def rollback(session, _):
            session.begin()
            session.run(put_in(99))
            return session.rollback

        for act in (query, refused, empty, rollback):
            self.assertEqual(self.each_cut(disk_with(*FILLED), act), 0)

    def test_a_refused_commit(self):
        disk = disk_with(*FILLED)
        database = Database(disk)
        session, other = database.session(), database.session()
        session.begin()
        session.run(QUERY)
        session.run(put_in(99))
        other.run(put_in(98))
        disk.fail_after(0)
        self.assertEqual(session.commit()[0], 0)
        self.assertTrue(disk.is_on())
        with self.assertRaises(PowerOff):
            other.run(put_in(97))
        self.closed(database, [session, other], [])

    def test_a_full_disk_comes_before_power(self):
        disk = disk_with(CREATE)
        database = Database(disk)
        session = database.session()
        session.begin()
        for number in range(900):
            session.run(put_in(number, "wwwwww"))
        disk.fail_after(0)
        self.assertEqual(outcome(session.commit), "DiskFull")
        self.assertTrue(disk.is_on())
        self.assertEqual(database.commits(), 1)


class Openings(PowerTest):
    def test_the_first_opening(self):
        for operations, kept in ((0, []), (1, []), (1, [False]), (1, [True])):
            disk = Disk(100)
            disk.fail_after(operations)
            for _ in range(2):
                with self.assertRaises(PowerOff):
                    Database(disk)
                self.assertIs(disk.in_use, False)
            disk.power(kept)
            self.assertIs(disk.in_use, False)
            database = Database(disk)
            self.assertEqual((state(database), disk.in_use), ((0, []), True))
            self.assertIsNone(database.session().run(CREATE))

    def test_a_later_opening_makes_no_operation(self):
        disk = disk_with(*FILLED)
        disk.fail_after(0)
        database = Database(disk)
        self.assertEqual((database.commits(), disk.is_on(), disk.in_use), (len(FILLED), True, True))
        with self.assertRaises(PowerOff):
            database.session().run(put_in(99))
        self.closed(database, [], [])


class OutsideOfMethods(PowerTest):
    def prepared(self, disk):
        """A database with a session, one in a transaction and a view."""
        database = Database(disk)
        sessions = [database.session(), database.session()]
        sessions[1].begin()
        sessions[1].run(put_in(77))
        return database, sessions, [database.view(QUERY)]

    def test_power_that_is_cut_and_comes_back(self):
        disk = disk_with(*FILLED)
        before = state(Database(copy.deepcopy(disk)))
        for kept in ([], [True, False]):
            told = self.prepared(disk)
            disk.power(kept)
            self.assertIs(disk.in_use, False)
            self.closed(*told)
            database = Database(disk)
            self.assertEqual((state(database), disk.in_use), (before, True))
            self.closed(*told)
            disk.power([])
            self.closed(*told)
            self.closed(database, [], [])

    def test_power_that_fails_at_an_operation_of_someone_else(self):
        disk = disk_with(*FILLED)
        before = state(Database(copy.deepcopy(disk)))
        told = self.prepared(disk)
        disk.fail_after(0)
        self.assertEqual(told[0].commits(), before[0])
        with self.assertRaises(PowerOff):
            disk.sync()
        self.closed(*told)
        with self.assertRaises(PowerOff):
            Database(disk)
        self.closed(*told)
        disk.power([])
        self.closed(*told)
        self.assertEqual(state(Database(disk)), before)

    def test_a_failure_that_is_set_closes_nothing_yet(self):
        disk = disk_with(*FILLED)
        database, sessions, views = self.prepared(disk)
        disk.fail_after(0)
        self.assertEqual(len(views[0].ask()), 20)
        self.assertEqual(len(sessions[0].run(QUERY)), 20)
        disk.fail_after(100)
        self.assertIsNone(sessions[1].commit())
        self.assertEqual(len(views[0].ask()), 21)

    def test_each_database_of_a_disk_is_closed_for_itself(self):
        disk = Disk(100)
        told = []
        for number in range(5):
            database = Database(disk)
            session = database.session()
            session.run(("create", f"t{number}", ("text",), 1))
            for old in told:
                self.closed(*old)
            self.assertEqual(database.commits(), number + 1)
            told.append((database, [session], []))
            disk.power([])
        for old in told:
            self.closed(*old)


class Drawn(PowerTest):
    def test_drawn_losses(self):
        """Sessions in drawn orders on a disk that loses its power often: point [32] over all of its databases."""
        lost, arrived = 0, 0
        for seed in range(50):
            draw = random.Random(seed)
            disk, slow, committed = Disk(200), SlowDatabase(200), []
            told = []
            for _ in range(6):
                database = self.opened(draw, disk)
                for old in told:
                    self.closed(*old)
                self.assertEqual(state(database), (slow.commits, slow.entries()))
                pairs = [(database.session(), SlowSession(slow, committed)) for _ in range(3)]
                trial = self.until_power_fails(draw, disk, pairs)
                told.append((database, [session for session, _ in pairs], []))
                self.closed(*told[-1])
                disk.power([draw.randrange(2) == 1 for _ in range(disk.pending())])
                if trial is not None:
                    lost += 1
                    if Database(copy.deepcopy(disk)).commits() > slow.commits:
                        arrived += 1
                        slow, committed = trial
            check_serial(self, committed, slow.entries())
        self.assertGreater(min(arrived, lost - arrived), 10)

    def opened(self, draw, disk):
        """A database of the disk, in whose opening power may fail several times."""
        while True:
            disk.fail_after(draw.randrange(4))
            try:
                database = Database(disk)
            except PowerOff:
                self.assertIs(disk.in_use, False)
                disk.power([draw.randrange(2) == 1 for _ in range(disk.pending())])
                continue
            disk.fail_after(draw.randrange(60))
            return database

    def until_power_fails(self, draw, disk, pairs):
        """Drawn calls; returns the other database with the commit in which power failed, or None if it was cut."""
        while draw.randrange(60):
            session, other = draw.choice(pairs)
            step = drawn_step(draw, other)
            before = copy.deepcopy([pair[1] for pair in pairs])
            expected = getattr(other, step[0])(*step[1:])
            result = outcome(getattr(session, step[0]), *step[1:])
            if result == "PowerOff":
                trial = copy.deepcopy((other.database, other.committed))
                self.restore(other, before[0])
                return trial
            self.assertEqual(result, expected, step)
        disk.power([draw.randrange(2) == 1 for _ in range(disk.pending())])
        return None

    def restore(self, session, before):
        """The other database is again what it was before the call."""
        session.database.__dict__.update(before.database.__dict__)
        session.committed[:] = before.committed


if __name__ == "__main__":
    unittest.main()
