"""The form of calls: their names and what their arguments must be."""

from paritypool.errors import InvalidArgument, InvalidCall, InvalidName, ReadOnly
from paritypool.limits import MAX_FILE
from paritypool.paths import is_name, is_path

MAX_PAGES = 60000

# The kinds of the arguments of each call. What is "free" is not checked here.
CALLS = {
    "make_directory": ("target", "path"),
    "create": ("target", "path"),
    "write": ("target", "path", "index", "free"),
    "truncate": ("target", "path", "size"),
    "remove": ("target", "path"),
    "rename": ("target", "path", "path"),
    "copy": ("target", "path", "path"),
    "atomic": ("free",),
    "read": ("target", "path", "index", "index"),
    "listing": ("target", "path"),
    "describe": ("target", "path"),
    "contents": ("target",),
    "usage": ("target",),
    "sets": (),
    "snapshots": ("name",),
    "send": ("name", "base", "name"),
    "limit_of": ("name",),
    "status": (),
    "new_set": ("name",),
    "snapshot": ("name", "name"),
    "clone": ("name", "name", "name"),
    "rollback": ("name", "name"),
    "drop_snapshot": ("name", "name"),
    "drop_set": ("name",),
    "limit": ("name", "pages"),
    "receive": ("free", "name", "name"),
    "checkpoint": (),
    "rewind": (),
    "drop_checkpoint": (),
    "sync": (),
    "commit": (),
    "scrub": (),
    "add": ("free",),
    "activate": ("free",),
    "retire": ("free",),
    "heal": (),
    "begin": (),
    "within": ("free", "free"),
    "finish": ("free",),
    "abandon": ("free",),
}

# The file calls other than atomic, and the questions with a target.
FILE_CALLS = ("make_directory", "create", "write", "truncate", "remove", "rename", "copy")
TREE_QUESTIONS = ("read", "listing", "describe", "contents", "usage")


def check_call(call):
    """Raise an error if the form of the call or one of its arguments is wrong."""
    check_form(call)
    check_arguments(call)
    if call[0] == "atomic":
        for part in call[1]:
            check_part(part, FILE_CALLS)
    if call[0] == "within":
        check_part(call[2], (*FILE_CALLS, *TREE_QUESTIONS))


def check_part(part, allowed):
    """Raise an error if a call inside another one is wrong, or none of those that are allowed there."""
    check_form(part)
    if part[0] not in allowed:
        raise InvalidCall("this call cannot be made inside another one")
    check_arguments(part)


def check_form(call):
    """Raise an error if the call has no known name or a wrong number of arguments."""
    if not call or not isinstance(call[0], str) or call[0] not in CALLS:
        raise InvalidCall("there is no such call")
    if len(call) - 1 != len(CALLS[call[0]]):
        raise InvalidCall("the call has a wrong number of arguments")


def check_arguments(call):
    """Raise an error if an argument of the call is wrong."""
    arguments = list(zip(CALLS[call[0]], call[1:]))
    if not all([is_right_text(kind, argument) for kind, argument in arguments]):
        raise InvalidName("an argument is not the name, the target or the path that it must be")
    if not all([is_in_range(kind, argument) for kind, argument in arguments]):
        raise InvalidArgument("an argument is out of its range")
    if call[0] == "write" and call[3] + len(call[4]) > MAX_FILE:
        raise InvalidArgument("the file would become too long")
    if call[0] in FILE_CALLS and "@" in call[1]:
        raise ReadOnly("a snapshot is never changed")


def is_right_text(kind, argument):
    """Return whether an argument that must be a name, a target or a path is one."""
    if kind == "name":
        return is_name(argument)
    if kind == "target":
        return is_target(argument)
    if kind == "path":
        return is_path(argument)
    if kind == "base":
        return argument is None or is_name(argument)
    return True


def is_target(text):
    """Return whether the text is the name of a set, or of a set and of a snapshot with @ between them."""
    if not isinstance(text, str):
        return False
    names = text.split("@")
    return len(names) <= 2 and all([is_name(name) for name in names])


def is_in_range(kind, argument):
    """Return whether an argument that must be in a range is in it."""
    if kind == "index":
        return argument >= 0
    if kind == "size":
        return 0 <= argument <= MAX_FILE
    if kind == "pages":
        return argument is None or 0 <= argument <= MAX_PAGES
    return True
