"""Drawn calls for tests of systems."""

from helpers import some_words

SETS = ["a", "b", "home"]
SNAPS = ["s", "t", "u"]
PATHS = ["", "a", "b", "a/b", "a/b/c", "ab", "a-b", "d", "d/e"]


def file_call(chosen, sets=SETS, light=False):
    """A file call other than atomic; light ones write few words that are not 0."""
    name, path, other = chosen.choice(sets), chosen.choice(PATHS), chosen.choice(PATHS)
    at = chosen.choice([0, 1, 15, 16, 17, 40])
    length = chosen.choice([0, 1, 3, 16, 17] if light else [0, 1, 3, 16, 17, 40, 100, 600])
    words = [0] * length if chosen.random() < 0.2 else some_words(chosen, length)
    return chosen.choice([
        ("make_directory", name, path), ("make_directory", name, path), ("create", name, path), ("create", name, path),
        ("write", name, path, at, words), ("write", name, path, at, words), ("write", name, path, at, words),
        ("truncate", name, path, chosen.choice([0, 1, 16, 17, 33, 4096])), ("remove", name, path),
        ("rename", name, path, other), ("copy", name, path, other),
    ])


def target(chosen, sets=SETS):
    name = chosen.choice(sets)
    return name if chosen.random() < 0.6 else name + "@" + chosen.choice(SNAPS)


def tree_question(chosen, sets=SETS):
    where, path = target(chosen, sets), chosen.choice(PATHS)
    return chosen.choice([
        ("read", where, path, chosen.choice([0, 1, 16, 5000]), chosen.choice([0, 1, 17, 5000])),
        ("listing", where, path), ("describe", where, path), ("contents", where), ("usage", where),
    ])


def question(chosen):
    name = chosen.choice(SETS)
    return chosen.choice([
        tree_question(chosen), tree_question(chosen), ("sets",), ("snapshots", name), ("limit_of", name), ("status",),
        ("send", name, chosen.choice([None, *SNAPS]), chosen.choice(SNAPS)),
    ])


def set_call(chosen, streams=()):
    name, snap, new = chosen.choice(SETS), chosen.choice(SNAPS), chosen.choice(SETS)
    calls = [
        ("new_set", name), ("new_set", new), ("new_set", new), ("snapshot", name, snap), ("snapshot", new, snap),
        ("snapshot", name, snap), ("clone", name, snap, new), ("rollback", name, snap), ("drop_snapshot", name, snap),
        ("drop_set", name), ("limit", name, chosen.choice([None, None, 0, 3, 40, 60000])), ("checkpoint",),
        ("drop_checkpoint",), ("rewind",) if chosen.random() < 0.3 else ("new_set", name),
    ]
    if streams:
        calls.extend([("receive", chosen.choice(streams), name, snap)] * 2)
    return chosen.choice(calls)


def transaction_call(chosen, numbers):
    """A transaction call, mostly on one of the open ones with these numbers."""
    number = chosen.choice(numbers) if numbers and chosen.random() < 0.95 else chosen.randrange(12)
    part = file_call(chosen) if chosen.random() < 0.7 else tree_question(chosen)
    calls = [("begin",), ("finish", number), ("abandon", chosen.randrange(40))]
    return chosen.choice(calls + [("within", number, part)] * 5)


def atomic_call(chosen, light=False):
    return ("atomic", [file_call(chosen, [chosen.choice(SETS)], light) for _ in range(chosen.choice([0, 1, 2, 3, 5]))])


def warm_calls(chosen, light=False):
    """Calls that fill a new pool."""
    calls = [("new_set", name) for name in SETS]
    for name in SETS:
        calls.extend([("make_directory", name, path) for path in ("a", "a/b", "d")])
        calls.extend([("create", name, path) for path in ("b", "a/b/c", "d/e")])
        calls.extend([file_call(chosen, [name], light) for _ in range(4)])
        calls.append(("snapshot", name, "s"))
    return calls


def any_call(chosen, streams=(), light=False, numbers=()):
    share = chosen.random()
    if share < 0.5:
        return file_call(chosen, light=light)
    if share < 0.55:
        return atomic_call(chosen, light)
    if share < 0.65:
        return question(chosen)
    if share < 0.8:
        return set_call(chosen, streams)
    if share < 0.85:
        return chosen.choice([("sync",), ("sync",), ("commit",), ("scrub",)])
    return transaction_call(chosen, list(numbers))
