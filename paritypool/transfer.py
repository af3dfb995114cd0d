"""Sending snapshots as streams, and receiving them."""

from paritypool.btree import differences
from paritypool.errors import AlreadyExists, InvalidArgument, NotFound, WrongBase
from paritypool.stream import changes, seal_stream, unseal_stream
from paritypool.tree import Tree


def contents_of(catalog, name, snap):
    """Return the contents of a snapshot."""
    return Tree(catalog.store, catalog.tree_root(name, snap)).contents()


def send(catalog, name, base, snap):
    """Return the stream of a snapshot, from the base on if there is one."""
    identities = dict(catalog.snapshots(name))
    # A dict keeps the order in which the snapshots were made.
    order = list(identities)
    if base is not None and base not in identities:
        raise NotFound("the set has no such base")
    if snap not in identities:
        raise NotFound("the set has no such snapshot")
    if base is None:
        return seal_stream(None, identities[snap], changes([], contents_of(catalog, name, snap)))
    if order.index(base) >= order.index(snap):
        raise InvalidArgument("the base was not made before the snapshot")
    changed = changes(contents_of(catalog, name, base), contents_of(catalog, name, snap))
    return seal_stream(identities[base], identities[snap], changed)


def receive(catalog, words, name, snap):
    """Make a set of a stream, or change a set by it, and add the snapshot."""
    base, identity, changed = unseal_stream(words)
    if base is None:
        catalog.new_set(name)
    else:
        check_base(catalog, name, snap, base)
    tree = Tree(catalog.store, catalog.tree_root(name))
    tree.change(changed)
    catalog.set_root(name, tree.root)
    catalog.snapshot(name, snap, identity)


def check_base(catalog, name, snap, base):
    """Raise an error if the set is not what the stream goes on from."""
    snapshots = catalog.snapshots(name)
    if snap in [each for each, _ in snapshots]:
        raise AlreadyExists("the set has a snapshot with this name")
    if not snapshots or snapshots[-1][1] != base:
        raise WrongBase("the last snapshot of the set is not the base of the stream")
    last = catalog.tree_root(name, snapshots[-1][0])
    # Trees with the same contents are maps with the same pairs.
    if differences(catalog.store, catalog.tree_root(name), last):
        raise WrongBase("the set was changed after its last snapshot")
