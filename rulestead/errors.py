"""The errors of the program."""


class RuleError(ValueError):
    """The base class of all errors of the program."""


class Refused(RuleError):
    """A statement, a rule or a body has a problem, a tuple."""

    def __init__(self, problem):
        self.problem = problem


class Denied(RuleError):
    """A denial clashes in the state that a commit would make."""

    def __init__(self, denial, row, sets):
        # The message holds texts alone: the list of sets stays the caller's.
        super().__init__(str(denial), repr(row), repr(sets))
        self.denial = denial
        self.row = row
        self.sets = None if sets is None else list(sets)


class InvalidArgument(RuleError):
    """An argument is not of the kind or the size that is asked for."""


class TransactionOpen(RuleError):
    """The session has a transaction already."""


class NoTransaction(RuleError):
    """The session has no transaction."""


class NoSavepoint(RuleError):
    """There is no mark of this name."""


class DiskFull(RuleError):
    """The changes cannot be stored."""


class PowerOff(RuleError):
    """Power is off or fails."""


class DatabaseOpen(RuleError):
    """A database of this disk is open."""


class DatabaseClosed(RuleError):
    """The database is closed."""


class DamagedData(RuleError):
    """Bytes are not the written form that is read."""
