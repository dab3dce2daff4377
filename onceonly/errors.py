"""All exceptions of the package.

Messages never show an invalid argument: Python refuses to write out very long integers.
"""


class OnceError(ValueError):
    """The base class of all exceptions of the package."""


class InvalidSystem(OnceError):
    """A system has a wrong form; `part` and `index` tell where."""

    def __init__(self, part, index):
        self.part = part
        self.index = index


class UnknownService(OnceError):
    """A service is not one that can be used here."""


class InvalidWindows(OnceError):
    """The item `index` of the windows is invalid, missing or superfluous."""

    def __init__(self, index):
        self.index = index


class InvalidTable(OnceError):
    """The entry of a table at `row` and `column` is invalid."""

    def __init__(self, row, column):
        self.row = row
        self.column = column


class InvalidLog(OnceError):
    """The item `index` of a log is invalid, missing or superfluous."""

    def __init__(self, index):
        self.index = index


class ImpossibleLog(OnceError):
    """According to a log, `service` acted without an explanation."""

    def __init__(self, service):
        self.service = service


class InvalidSchedule(OnceError):
    """The item `index` of a schedule is invalid."""

    def __init__(self, index):
        self.index = index


class InvalidTimes(OnceError):
    """The item `index` of the times of requests is invalid."""

    def __init__(self, index):
        self.index = index


class InvalidGap(OnceError):
    """A gap between requests is invalid."""


class TooManyAttempts(OnceError):
    """A system has too many attempts for planning."""


class InvalidMessage(OnceError):
    """A message cannot be an entry of a schedule."""


class TooLate(OnceError):
    """A time has passed already."""


class InvalidTime(OnceError):
    """A time is invalid, or there is no room for another request."""


class InvalidCall(OnceError):
    """A call has a wrong form."""


class UnknownCall(OnceError):
    """There is no call with this index."""


class TooManyCalls(OnceError):
    """A system has no room for another call."""


class TooManyServices(OnceError):
    """A system has no room for another service."""


class ServiceInUse(OnceError):
    """A service is the caller or the target of a call."""


class InvalidOperation(OnceError):
    """The item `index` of a list of operations is invalid."""

    def __init__(self, index):
        self.index = index


class InvalidName(OnceError):
    """The name of a checkpoint has a wrong form."""


class UnknownCheckpoint(OnceError):
    """There is no checkpoint with this name."""


class ScriptError(OnceError):
    """The row `row` of a script is invalid."""

    def __init__(self, row):
        self.row = row


class ExecutionFailed(OnceError):
    """The statement at the row `row` of a script cannot be executed."""

    def __init__(self, row):
        self.row = row


class StepLimitExceeded(OnceError):
    """A script takes too many steps."""


class NotationError(OnceError):
    """The word `word` of the row `row` of a text is wrong."""

    def __init__(self, row, word):
        self.row = row
        self.word = word


class InvalidCount(OnceError):
    """A number of items, or a list of byte values, is invalid."""


class DecodeError(OnceError):
    """The byte at `offset` is invalid or missing."""

    def __init__(self, offset):
        self.offset = offset
