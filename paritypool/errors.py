"""The errors that the program raises."""


class PoolError(ValueError):
    """The base class of all errors of the program."""


class InvalidArgument(PoolError):
    """An argument is out of its range or does not fit the others."""


class NotEnoughPieces(PoolError):
    """Too few pieces of a stripe are left, or nobody can tell the wrong ones."""


class BadPacking(PoolError):
    """A list of integers is the packed form of no value."""


class NoSpace(PoolError):
    """No row is free."""


class NoPool(PoolError):
    """The images show no label."""


class NotEnoughDisks(PoolError):
    """There are fewer disks than are needed."""


class Damaged(PoolError):
    """A block cannot be read or repaired."""


class InvalidCall(PoolError):
    """A call does not have the form of any call."""


class InvalidName(PoolError):
    """An argument is not the name, target or path that it must be."""


class ReadOnly(PoolError):
    """A file call would change a snapshot."""


class NotFound(PoolError):
    """What a call names does not exist."""


class AlreadyExists(PoolError):
    """What a call would make is there already."""


class NotDirectory(PoolError):
    """A directory is needed, but the path is a file."""


class IsDirectory(PoolError):
    """A file is needed, but the path is a directory."""


class NotEmpty(PoolError):
    """What a call would remove still contains something."""


class TooLong(PoolError):
    """A path would get too many characters."""


class OverLimit(PoolError):
    """A set would get more pages than its limit allows."""


class Busy(PoolError):
    """Open transactions do not allow the call."""


class Conflict(PoolError):
    """The calls of a transaction have other results on the pool as it is now."""


class WrongStream(PoolError):
    """A list of words is not a stream."""


class WrongBase(PoolError):
    """A stream does not follow the state of the set."""
