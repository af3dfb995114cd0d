"""Plain models of trees of files and of the catalog, straight from points 38 to 44."""

import copy

from helpers import same_kinds
from paritypool.errors import (
    AlreadyExists, InvalidArgument, IsDirectory, NotDirectory, NotEmpty, NotFound, PoolError, TooLong,
)
from paritypool.store import Store


class Counting(Store):
    """A store that counts the blocks that are made and read."""

    puts = 0
    gets = 0

    def put(self, words, *, avoid=()):
        self.puts += 1
        return Store.put(self, words, avoid=avoid)

    def get(self, pointer):
        self.gets += 1
        return Store.get(self, pointer)


def outcome(target, method, arguments):
    """The answer of a method, or the class of the error."""
    try:
        return getattr(target, method)(*copy.deepcopy(arguments))
    except PoolError as error:
        return error.__class__


def both(target, model, method, *arguments):
    """Call a method of a tree or a catalog and of its model, which must do the same; what comes of it."""
    expected = outcome(model, method, arguments)
    before = target.root
    found = outcome(target, method, arguments)
    assert same_kinds(found, expected), (method, arguments, found, expected)
    if isinstance(expected, type):
        assert target.root == before, (method, arguments)
    return found


def pages_of(words):
    return [words[at:at + 16] for at in range(0, len(words), 16)]


class TreeModel:
    """A table of paths: None for a directory, the list of its words for a file."""

    def __init__(self, table=None):
        self.table = {} if table is None else copy.deepcopy(table)

    def exists(self, path):
        return path == "" or path in self.table

    def is_directory(self, path):
        return path == "" or (path in self.table and self.table[path] is None)

    def check_way(self, path):
        names = path.split("/")
        for many in range(1, len(names)):
            way = "/".join(names[:many])
            if not self.exists(way):
                raise NotFound
            if not self.is_directory(way):
                raise NotDirectory

    def below(self, path):
        return [each for each in self.table if path == "" or each.startswith(path + "/")]

    def make(self, path, content):
        if path == "":
            raise AlreadyExists
        self.check_way(path)
        if self.exists(path):
            raise AlreadyExists
        self.table[path] = content

    def make_directory(self, path):
        self.make(path, None)

    def create(self, path):
        self.make(path, [])

    def file(self, path):
        if path == "":
            raise IsDirectory
        self.check_way(path)
        if not self.exists(path):
            raise NotFound
        if self.is_directory(path):
            raise IsDirectory
        return self.table[path]

    def write(self, path, at, words):
        content = self.file(path)
        if words:
            content.extend([0] * (at - len(content)))
            content[at:at + len(words)] = words

    def truncate(self, path, size):
        content = self.file(path)
        del content[size:]
        content.extend([0] * (size - len(content)))

    def read(self, path, at, count):
        return self.file(path)[at:at + count]

    def remove(self, path):
        if path == "":
            raise InvalidArgument
        self.check_way(path)
        if not self.exists(path):
            raise NotFound
        if self.is_directory(path) and self.below(path):
            raise NotEmpty
        del self.table[path]

    def moving(self, old, new, equal_is_nothing):
        """The pairs of the paths of everything that moves, old and new."""
        if old == "" or new == "":
            raise InvalidArgument
        self.check_way(old)
        if not self.exists(old):
            raise NotFound
        if equal_is_nothing and old == new:
            return []
        if new.startswith(old + "/"):
            raise InvalidArgument
        self.check_way(new)
        if self.exists(new):
            raise AlreadyExists
        pairs = [(path, new + path[len(old):]) for path in [old, *self.below(old)]]
        if any(len(path) > 60 for _, path in pairs):
            raise TooLong
        return pairs

    def rename(self, old, new):
        for before, after in self.moving(old, new, True):
            self.table[after] = self.table.pop(before)

    def copy(self, old, new):
        for before, after in self.moving(old, new, False):
            self.table[after] = copy.copy(self.table[before])

    def usage(self):
        return len(self.table), sum(len(pages_of(words)) for words in self.table.values() if words is not None)

    def weight(self):
        pages = [page for words in self.table.values() if words is not None for page in pages_of(words)]
        return len(self.table) + sum(1 for page in pages if any(page))

    def kind(self, path):
        return "directory" if self.is_directory(path) else "file"

    def listing(self, path):
        self.check_way(path)
        if not self.exists(path):
            raise NotFound
        if not self.is_directory(path):
            raise NotDirectory
        names = [each[len(path) + 1 if path else 0:] for each in self.below(path)]
        return [(name, self.kind((path + "/" if path else "") + name)) for name in sorted(names) if "/" not in name]

    def describe(self, path):
        self.check_way(path)
        if not self.exists(path):
            raise NotFound
        if self.is_directory(path):
            return "directory", len(self.listing(path))
        return "file", len(self.table[path])

    def contents(self):
        return [(path, self.kind(path), copy.copy(self.table[path])) for path in sorted(self.table)]


class CatalogModel:
    """A dict of sets: for each name a dict of its tree, its limit and its snapshots, tuples in their order."""

    def __init__(self):
        self.table = {}

    def find(self, name):
        if name not in self.table:
            raise NotFound
        return self.table[name]

    def find_snapshot(self, name, snap):
        for each, identity, tree in self.find(name)["snapshots"]:
            if each == snap:
                return tree
        raise NotFound

    def sets(self):
        return sorted(self.table)

    def new_set(self, name, tree=None):
        if name in self.table:
            raise AlreadyExists
        self.table[name] = {"tree": tree, "limit": None, "snapshots": []}

    def tree_root(self, name, snap=None):
        return self.find(name)["tree"] if snap is None else self.find_snapshot(name, snap)

    def set_root(self, name, tree):
        self.find(name)["tree"] = tree

    def snapshot(self, name, snap, identity):
        found = self.find(name)
        if snap in [each for each, _, _ in found["snapshots"]]:
            raise AlreadyExists
        found["snapshots"].append((snap, identity, found["tree"]))

    def snapshots(self, name):
        return [(snap, identity) for snap, identity, _ in self.find(name)["snapshots"]]

    def limit(self, name):
        return self.find(name)["limit"]

    def set_limit(self, name, pages):
        self.find(name)["limit"] = pages

    def clone(self, name, snap, new):
        self.new_set(new, self.find_snapshot(name, snap))

    def rollback(self, name, snap):
        self.find(name)["tree"] = self.find_snapshot(name, snap)

    def drop_snapshot(self, name, snap):
        self.find_snapshot(name, snap)
        found = self.find(name)
        found["snapshots"] = [each for each in found["snapshots"] if each[0] != snap]

    def drop_set(self, name):
        if self.find(name)["snapshots"]:
            raise NotEmpty
        del self.table[name]

    def load(self):
        """The load of the sets and snapshots, if the trees are models."""
        trees = [tree for found in self.table.values()
                 for tree in [found["tree"], *[each[2] for each in found["snapshots"]]]]
        return len(trees) + sum(tree.weight() for tree in trees)
