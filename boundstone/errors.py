"""The errors that the program raises."""


class TableError(ValueError):
    """Every error of the program."""


class BadText(TableError):
    """A value has no canonical text, or a text is not canonical."""


class BadOperation(TableError):
    """A value is not an operation."""


class BadLetter(TableError):
    """A value is not a letter, or not one between these two parties."""


class BadShard(TableError):
    """A shard cannot be made, or cannot do what it is asked."""


class BadRecord(TableError):
    """A record is not valid after the records before it."""


class BadServer(TableError):
    """A server or a client cannot be made."""


class DiskError(TableError):
    """An argument of a method of a disk is invalid."""


class DiskCrashed(TableError):
    """A disk has crashed, or crashes now."""


class BadSchedule(TableError):
    """An act or a line of a schedule is not possible."""

    def __init__(self, line, reason):
        self.line = line
        self.reason = reason
