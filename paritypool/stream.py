"""Streams: what is in a snapshot, or what differs between two of them, as words."""

from paritypool.errors import BadPacking, WrongStream
from paritypool.limits import PAGE, PRIME
from paritypool.packing import pack, unpack
from paritypool.pages import page_count, resized, with_pages
from paritypool.sector import CHECK_WORDS, check_words

WORD = "paritypool"
PARTS = 4


def changes(old, new):
    """Return the list of the changes from the old contents to the new ones."""
    before = {path: (kind, words) for path, kind, words in old}
    after = {path: (kind, words) for path, kind, words in new}
    found = []
    for path in sorted(set([*before, *after])):
        old_kind, old_words = before.get(path, (None, None))
        kind, words = after.get(path, (None, None))
        if kind is None:
            found.append((path, "gone"))
        elif kind == "directory" and old_kind != "directory":
            found.append((path, "directory"))
        elif kind == "file" and (old_kind != "file" or old_words != words):
            base = old_words if old_kind == "file" else []
            found.append((path, "file", len(words), changed_pages(base, words)))
    return found


def changed_pages(base, words):
    """Return the list of the numbers and the words of the pages that differ from the base."""
    filled = resized(base, len(words))
    pages = [(number, words[number * PAGE:(number + 1) * PAGE]) for number in range(page_count(len(words)))]
    return [(number, page) for number, page in pages if page != filled[number * PAGE:(number + 1) * PAGE]]


def apply_changes(old, changed):
    """Return the contents that the changes make of the old ones."""
    found = {path: (kind, None if words is None else list(words)) for path, kind, words in old}
    for path, kind, *more in changed:
        if kind == "gone":
            del found[path]
        elif kind == "directory":
            found[path] = ("directory", None)
        else:
            size, pages = more
            base = found[path][1] if path in found and found[path][0] == "file" else []
            found[path] = ("file", with_pages(base, size, pages))
    return [(path, *found[path]) for path in sorted(found)]


def seal_stream(base, identity, changed):
    """Return the stream of the changes."""
    words = pack((WORD, base, identity, changed))
    return [*words, *check_words(words)]


def unseal_stream(words):
    """Return the base, the identity and the changes of a stream."""
    if len(words) <= CHECK_WORDS or min(words) < 0 or max(words) >= PRIME:
        raise WrongStream("these are not words, or too few")
    packed = words[:-CHECK_WORDS]
    if tuple(words[-CHECK_WORDS:]) != check_words(packed):
        raise WrongStream("the check words are not right")
    try:
        value = unpack(packed)
    except BadPacking:
        raise WrongStream("the words are not the packed form of a value") from None
    if not isinstance(value, tuple) or len(value) != PARTS or value[0] != WORD:
        raise WrongStream("the words are not those of a stream")
    _, base, identity, changed = value
    return base, identity, changed
