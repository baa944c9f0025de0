"""The errors of the program: one class for each kind of failure."""


class AnswerError(ValueError):
    """The base class of all errors of the program."""


class Refused(AnswerError):
    """A statement, query or view is refused; the attribute problem is the tuple that tells why."""

    def __init__(self, problem):
        self.problem = problem


class InvalidArgument(AnswerError):
    """A disk is asked for with a number of sectors that no disk has."""


class TransactionOpen(AnswerError):
    """A session begins a transaction while one of its own has not ended."""


class NoTransaction(AnswerError):
    """A session ends a transaction while it has none."""


class DiskFull(AnswerError):
    """There are fewer free pages than a commit needs."""


class PowerOff(AnswerError):
    """Power is off, or it failed just now."""


class DatabaseOpen(AnswerError):
    """A database of this disk has been opened and not closed."""


class DatabaseClosed(AnswerError):
    """The database was closed by a loss of power."""


class DamagedData(AnswerError):
    """Bytes that no page is written as."""
