"""The catalog: all sets with their snapshots, stored as a map.

The key of a set is its name and SET; the value is a tuple of its limit and of the root of its tree. The key of a
snapshot is the name of the set, @ and the name of the snapshot, and SNAPSHOT; the value is a tuple of a number that
is greater than those of the snapshots made before, of the identity and of the root of the tree.
"""

from paritypool.btree import add_blocks, change_pairs, evacuate, find, scan
from paritypool.errors import AlreadyExists, NotEmpty, NotFound

SET = -1
SNAPSHOT = 0


def set_key(name):
    """Return the key of a set."""
    return name, SET


def snapshot_key(name, snap):
    """Return the key of a snapshot."""
    return name + "@" + snap, SNAPSHOT


class Catalog:
    """The list of all sets."""

    def __init__(self, store, root):
        self.store = store
        self.root = root

    def sets(self):
        """Return the ascending list of the names of all sets."""
        return [text for (text, number), _ in self._pairs() if number == SET]

    def new_set(self, name):
        """Make a set with an empty tree."""
        self._check_new(name)
        self._change({set_key(name): (None, None)})

    def tree_root(self, name, snap=None):
        """Return the root of the tree of a set or of a snapshot."""
        _, root = self._set(name)
        return root if snap is None else self._snapshot(name, snap)[2]

    def set_root(self, name, root):
        """Give the tree of a set another root."""
        pages, _ = self._set(name)
        self._change({set_key(name): (pages, root)})

    def limit(self, name):
        """Return the limit of a set."""
        return self._set(name)[0]

    def set_limit(self, name, pages):
        """Give a set another limit."""
        _, root = self._set(name)
        self._change({set_key(name): (pages, root)})

    def snapshots(self, name):
        """Return the list of the names and identities of the snapshots of a set, the oldest first."""
        return [(snap, identity) for _, snap, identity in self._numbered(name)]

    def snapshot(self, name, snap, identity):
        """Add a snapshot to a set."""
        _, root = self._set(name)
        if find(self.store, self.root, snapshot_key(name, snap)) is not None:
            raise AlreadyExists("the set has a snapshot with this name")
        number = max([each for each, _, _ in self._numbered(name)], default=-1) + 1
        self._change({snapshot_key(name, snap): (number, identity, root)})

    def clone(self, name, snap, new):
        """Make a new set with the tree of a snapshot."""
        root = self.tree_root(name, snap)
        self._check_new(new)
        self._change({set_key(new): (None, root)})

    def rollback(self, name, snap):
        """Make the tree of a set that of one of its snapshots."""
        self.set_root(name, self.tree_root(name, snap))

    def drop_snapshot(self, name, snap):
        """Remove a snapshot."""
        self._set(name)
        self._snapshot(name, snap)
        self._change({snapshot_key(name, snap): None})

    def drop_set(self, name):
        """Remove a set without snapshots."""
        self._set(name)
        if self._numbered(name):
            raise NotEmpty("the set has snapshots")
        self._change({set_key(name): None})

    def live(self):
        """Return the list of the pointers of all blocks of the catalog's map and of all trees, each once."""
        found = {}
        self.add_live(found)
        return list(found)

    def add_live(self, found):
        """Add all blocks of the catalog's map and of all trees to the keys of the dict."""
        add_blocks(self.store, self.root, found)
        for _, value in self._pairs():
            add_blocks(self.store, value[-1], found)

    def evacuate(self, disks, moved):
        """Evacuate the catalog's map and all trees from the disks."""
        changes = {}
        for key, value in self._pairs():
            root = evacuate(self.store, value[-1], disks, moved)
            if root != value[-1]:
                changes[key] = (*value[:-1], root)
        changed = change_pairs(self.store, self.root, changes, avoid=disks)
        self.root = evacuate(self.store, changed, disks, moved)

    def _pairs(self):
        """Return the pairs of all sets and snapshots."""
        # No character of a key comes after z.
        return scan(self.store, self.root, ("", SET), ("{", SET))

    def _set(self, name):
        """Return the limit of a set and the root of its tree."""
        found = find(self.store, self.root, set_key(name))
        if found is None:
            raise NotFound("there is no such set")
        return found

    def _snapshot(self, name, snap):
        """Return the number, the identity and the root of a snapshot of a set."""
        found = find(self.store, self.root, snapshot_key(name, snap))
        if found is None:
            raise NotFound("the set has no such snapshot")
        return found

    def _numbered(self, name):
        """Return the list of the numbers, names and identities of the snapshots of a set, in their order."""
        self._set(name)
        low = name + "@"
        # The character after @ is A.
        pairs = scan(self.store, self.root, (low, SNAPSHOT), (name + "A", SNAPSHOT))
        return sorted([(number, text[len(low):], identity) for (text, _), (number, identity, _) in pairs])

    def _check_new(self, name):
        """Raise an error if there is a set with the name."""
        if find(self.store, self.root, set_key(name)) is not None:
            raise AlreadyExists("there is a set with this name")

    def _change(self, values):
        """Give the keys of the map these values, or remove those whose value is None."""
        self.root = change_pairs(self.store, self.root, values)
