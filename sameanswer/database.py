"""Databases, their sessions and their views (points [26] to [32])."""

from sameanswer.errors import DatabaseClosed, DatabaseOpen, NoTransaction, TransactionOpen
from sameanswer.looks import Look
from sameanswer.statements import say
from sameanswer.store import Store
from sameanswer.transactions import ALL_KEYS, Transaction
from sameanswer.views import View


class Database:
    """The database of a disk, until power fails."""

    def __init__(self, disk):
        if disk.in_use:
            raise DatabaseOpen("a database of this disk is open")
        self._store = Store(disk)
        self._disk = disk
        # Power may be back when the database is asked, and even another database of the disk may be open.
        self._losses = disk.losses()
        disk.in_use = True

    def session(self):
        """A new session."""
        self.check_open()
        return Session(self)

    def commits(self):
        """The number of commits."""
        self.check_open()
        return self._store.commits

    def entries(self):
        """The list of the pairs (key, value) of the whole map, in order."""
        self.check_open()
        return self._store.tree.scan(ALL_KEYS)

    def pages(self):
        """The number of pages of the tree."""
        self.check_open()
        return len(self._store.tree.numbers())

    def view(self, query):
        """A new view. Raises Refused."""
        self.check_open()
        return KeptView(self, query)

    def check_open(self):
        """Raises DatabaseClosed if power failed since the database was opened."""
        if self._disk.losses() != self._losses:
            raise DatabaseClosed("power failed since the database was opened")

    def tree_now(self):
        """The tree that is committed now."""
        return self._store.tree

    def keep(self, changes):
        """Stores changes, each of which makes a difference, as the next commit, if there are any.

        Raises DiskFull, PowerOff.
        """
        if changes:
            self._store.commit(sorted(changes.items()))


class Session:
    """A session of a database, with at most one open transaction."""

    def __init__(self, database):
        self._database = database
        self._transaction = None
        self._reruns = 0

    def run(self, statement):
        """The answer of a statement, in the open transaction or alone. Raises Refused, DiskFull, PowerOff."""
        self._database.check_open()
        if self._transaction is not None:
            return self._transaction.run(statement)
        # Nothing is committed between a single statement and its commit, so it is not gone through again.
        told, changes = say(Look(self._database.tree_now(), {}), statement)
        self._database.keep(changes)
        return told

    def begin(self):
        """Begins a transaction. Raises TransactionOpen."""
        self._database.check_open()
        if self._transaction is not None:
            raise TransactionOpen("the session has an open transaction")
        self._transaction = Transaction(self._database.tree_now())

    def commit(self):
        """Ends the transaction: None if it is committed, the pair (index, told) if it is refused.

        Raises NoTransaction, DiskFull, PowerOff.
        """
        transaction = self._ended()
        index, told, changes = transaction.again(self._database.tree_now())
        self._reruns = transaction.reruns
        if index is not None:
            return index, told
        self._database.keep(changes)
        return None

    def rollback(self):
        """Ends the transaction without a commit. Raises NoTransaction."""
        self._ended()

    def reruns(self):
        """The number of statements that the last commit of the session ran again."""
        self._database.check_open()
        return self._reruns

    def _ended(self):
        """The open transaction, which ends. Raises NoTransaction if there is none."""
        self._database.check_open()
        transaction = self._transaction
        if transaction is None:
            raise NoTransaction("the session has no open transaction")
        self._transaction = None
        return transaction


class KeptView:
    """A view of a database."""

    def __init__(self, database, query):
        self._database = database
        self._view = View(database.tree_now(), query)

    def ask(self):
        """The answer on the tree that is committed now. Raises Refused."""
        self._database.check_open()
        return self._view.ask(self._database.tree_now())

    def runs(self):
        """How often the query was run without being refused."""
        self._database.check_open()
        return self._view.runs
