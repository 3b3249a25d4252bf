"""The errors that the program raises, one class for each kind of failure."""


class StoreError(ValueError):
    """The base class of all errors of the program."""


class SchemaError(StoreError):
    """A schema is not valid."""

    def __init__(self, code, table):
        self.code = code
        self.table = table


class EditError(StoreError):
    """An edit of a write cannot be applied."""

    def __init__(self, code, index):
        self.code = code
        self.index = index


class StepError(StoreError):
    """A step of a script cannot be applied."""

    def __init__(self, code, index):
        self.code = code
        self.index = index


class LensError(StoreError):
    """A state cannot be put to the other side of a step."""

    def __init__(self, code, table, key):
        self.code = code
        self.table = table
        self.key = key


class VersionError(StoreError):
    """A version does not allow what is asked of it."""

    def __init__(self, code):
        self.code = code


class RejectedError(StoreError):
    """A version rejects a change."""

    def __init__(self, version, code, table, key):
        self.version = version
        self.code = code
        self.table = table
        self.key = key


class TransactionError(StoreError):
    """A transaction cannot go on or commit."""

    def __init__(self, code):
        self.code = code


class QueryError(StoreError):
    """A query has no answer."""

    def __init__(self, code):
        self.code = code


class RecordError(StoreError):
    """Bytes are no packed form."""

    def __init__(self, at):
        self.at = at


class PowerError(StoreError):
    """The power of a disk has failed."""
