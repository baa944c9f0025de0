"""A second database: tables that are plain dicts, with the pages that the disk would have (points [26] to [32])."""

from models import slow_changed
from replays import SlowTransaction
from sayings import differences, drawn_statement, slow_say, spoiled_statement
from tables import map_of
from sameanswer.errors import AnswerError, Refused

CREATE = ("create", "t", ("integer", "text"), 1)
QUERY = ("select", (("column", "s", 0), ("column", "s", 1)), (("s", "t"),), ())


def put_in(number, text="x"):
    return ("insert", "t", (number, text))


def key_is(value):
    """The condition of a statement over t that the key is this one."""
    return ("=", ("column", "t", 0), ("value", value))


def outcome(call, *arguments):
    """What a call returns, as ("answer", ..), the problem that it raises, or the class of another error."""
    try:
        return ("answer", call(*arguments))
    except Refused as refused:
        return ("problem", refused.problem)
    except AnswerError as error:
        return error.__class__.__name__


class SlowDatabase:
    """The tables that are committed, the number of commits and the pages."""

    def __init__(self, sectors):
        self.sectors = sectors
        self.tables = {}
        self.root = None
        self.pages = {}
        self.commits = 0

    def entries(self):
        return sorted(map_of(self.tables).items())

    def store(self, tables):
        """Commits the tables if they differ; False if the disk is full."""
        changes = differences(map_of(self.tables), map_of(tables))
        if changes:
            free = [number for number in range(2, self.sectors) if number not in self.pages]
            changed = slow_changed(self.root, self.pages, sorted(changes.items()), free)
            if changed is None:
                return False
            self.root, self.pages, _ = changed
            self.tables = tables
            self.commits += 1
        return True


class SlowSession:
    """A session of such a database; each method returns what outcome tells of the real one.

    The list committed has the pairs (statement, told) of all transactions that are committed, in their order.
    """

    def __init__(self, database, committed):
        self.database = database
        self.committed = committed
        self.transaction = None
        self.count = 0

    def run(self, statement):
        if self.transaction is not None:
            return self.transaction.run(statement)
        told, after, _ = slow_say(self.database.tables, statement)
        if not self.database.store(after):
            return "DiskFull"
        self.committed.append([(statement, told)])
        return told

    def begin(self):
        if self.transaction is not None:
            return "TransactionOpen"
        self.transaction = SlowTransaction(self.database.tables)
        return ("answer", None)

    def commit(self):
        ended = self.transaction
        if ended is None:
            return "NoTransaction"
        self.transaction = None
        now = self.database.tables
        self.count = ended.reruns(now)
        index, told, _ = ended.again(now)
        if index is not None:
            return ("answer", (index, told))
        for statement, _, _, _ in ended.notes:
            now = slow_say(now, statement)[1]
        if not self.database.store(now):
            return "DiskFull"
        self.committed.append([(statement, told) for statement, told, _, _ in ended.notes])
        return ("answer", None)

    def rollback(self):
        if self.transaction is None:
            return "NoTransaction"
        self.transaction = None
        return ("answer", None)

    def tables(self):
        """The tables as the session sees them."""
        return self.database.tables if self.transaction is None else self.transaction.now


def drawn_step(draw, session):
    """A call of a session: the name of the method and its arguments."""
    way = draw.randrange(40)
    if way < 3:
        return (("begin",), ("commit",), ("rollback",))[way]
    if way < 10:
        return ("begin",) if session.transaction is None else ("commit",)
    statement = drawn_statement(draw, session.tables())
    return ("run", spoiled_statement(draw, statement) if draw.randrange(8) == 0 else statement)


def check_serial(test, committed, entries):
    """Point [32]: one after another, each transaction is given the same answers, and the map is what they make."""
    tables = {}
    for transaction in committed:
        for statement, told in transaction:
            now, tables, _ = slow_say(tables, statement)
            test.assertEqual(now, told)
    test.assertEqual(sorted(map_of(tables).items()), entries)
