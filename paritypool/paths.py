"""Names, and the paths that consist of them."""

from paritypool.limits import MAX_NAME, MAX_PATH

NAME_CHARACTERS = "abcdefghijklmnopqrstuvwxyz0123456789-"


def is_name(text):
    """Return whether the text is a name."""
    if not isinstance(text, str) or not 1 <= len(text) <= MAX_NAME:
        return False
    return all([character in NAME_CHARACTERS for character in text])


def is_path(text):
    """Return whether the text is a path."""
    if not isinstance(text, str) or len(text) > MAX_PATH:
        return False
    return text == "" or all([is_name(name) for name in text.split("/")])


def ways(path):
    """Return the list of the paths of fewer of the first names of the path, the shortest first."""
    names = path.split("/")
    return ["/".join(names[:many]) for many in range(1, len(names))]


def moved_path(path, old, new):
    """Return what the path becomes if the old path, with which it begins, becomes the new one."""
    return new + path[len(old):]
