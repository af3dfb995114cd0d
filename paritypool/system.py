"""Mounted pools, and the calls that are made on them."""

from paritypool.calls import FILE_CALLS, TREE_QUESTIONS, check_call
from paritypool.errors import (
    AlreadyExists, Damaged, InvalidArgument, NoPool, NoSpace, NotEnoughDisks, NotFound, PoolError,
)
from paritypool.filecalls import make_tree_call
from paritypool.images import is_present
from paritypool.journal import read_notes
from paritypool.labels import Label, find_label, label_requests, outdated_disks
from paritypool.limits import MAX_DISKS, MAX_ROWS, MIN_ROWS, PRIME
from paritypool.members import activate, add, heal, retire, status
from paritypool.packing import unpack
from paritypool.pool import FLUSH, Pool, kept_roots, live_blocks
from paritypool.poolstore import PoolStore
from paritypool.schedule import schedule
from paritypool.transactions import abandon, begin, finish, within
from paritypool.transfer import receive, send


def create(*, disks, rows, data, parity, pool, epoch):
    """Make a new pool on blank disks; return the system and the requests."""
    if data < 1 or parity < 0 or disks < data + parity or disks > MAX_DISKS:
        raise InvalidArgument("the pool cannot have so many disks and pieces")
    if not MIN_ROWS <= rows <= MAX_ROWS:
        raise InvalidArgument("the disks cannot have so many rows")
    if not 0 <= pool < PRIME:
        raise InvalidArgument("the number of the pool is not a word")
    check_epoch(epoch)
    members = list(range(disks))
    label = Label(pool=pool, epoch=epoch, group=1, data=data, parity=parity, rows=rows, members=members,
                  root=(None, None))
    # All disks are there, and nothing is read from them.
    images = [[] for _ in members]
    requests = [*label_requests(images, label, members), FLUSH]
    return System(Pool(label, new_store(label))), schedule(requests)


def check_epoch(epoch):
    """Raise an error if the number is no epoch."""
    if not 1 <= epoch < PRIME:
        raise InvalidArgument("the epoch is out of its range")


def new_store(label):
    """Return a store without blocks for the mount that the label belongs to."""
    return PoolStore(data=label.data, parity=label.parity, rows=label.rows, members=label.members, epoch=label.epoch)


def mount(images, epoch):
    """Bring a pool back; return the system and the requests."""
    check_epoch(epoch)
    label = find_label(images)
    if label is None:
        raise NoPool("there is no label")
    if epoch <= label.epoch:
        raise InvalidArgument("the epoch is not greater than that of the label")
    if len([disk for disk in label.members if is_present(images, disk)]) < label.data:
        raise NotEnoughDisks("too few members are present")
    claim = Label(pool=label.pool, epoch=epoch, group=label.group + 1, data=label.data, parity=label.parity,
                  rows=label.rows, members=label.members, spares=label.spares, notes=label.notes, root=label.root)
    requests = label_requests(images, label, outdated_disks(images, label))
    requests.append(FLUSH)
    requests.extend(label_requests(images, claim, sorted([*claim.members, *claim.spares])))
    requests.append(FLUSH)
    pool = Pool(claim, new_store(claim))
    pool.look(images)
    pool.store.claim(live_blocks(pool.store, kept_roots(pool.root, pool.checkpoint)))
    for note in read_notes(images, claim.members, claim.notes):
        for call in unpack(note):
            pool.make_file_call(call)
    requests.extend(pool.commit_all())
    return System(pool), schedule(requests)


class System:
    """A mounted pool."""

    def __init__(self, pool):
        self._pool = pool

    def perform(self, images, call):
        """Make a call; return its answer and the requests."""
        check_call(call)
        self._pool.look(images)
        try:
            answer, requests = self._attempt(call)
        except NoSpace:
            # Blocks that earlier calls left behind take room.
            self._pool.trim()
            answer, requests = self._attempt(call)
        return answer, schedule(requests)

    def free_counts(self):
        """Return the pairs of each member and the number of its free rows, in ascending order."""
        try:
            # Blocks that no call will read any more are in the store until they are in the way.
            self._pool.trim()
        except Damaged:
            pass
        return self._pool.store.free_counts()

    def _attempt(self, call):
        """Make a call; return its answer and the requests. If it raises an error, its blocks are forgotten."""
        made = self._pool.store.made()
        try:
            return make_call(self._pool, call)
        except PoolError:
            self._pool.store.undo(made)
            raise


def make_call(pool, call):
    """Make a call of any name; return its answer and the requests."""
    word, *arguments = call
    if word in FILE_CALLS or word == "atomic":
        pool.make_file_call(call)
        return None, []
    if word in TREE_QUESTIONS:
        return make_tree_call(pool.catalog(), call), []
    if word in ("sets", "snapshots", "send", "limit_of", "status"):
        return ask_pool(pool, word, arguments), []
    if word in ("begin", "within", "finish", "abandon"):
        return make_transaction_call(pool, word, arguments), []
    if word in ("checkpoint", "rewind", "drop_checkpoint"):
        return None, make_checkpoint_call(pool, word)
    if word in ("sync", "commit", "scrub", "add", "activate", "retire", "heal"):
        return make_pool_call(pool, word, arguments)
    return None, make_set_call(pool, word, arguments)


def ask_pool(pool, word, arguments):
    """Return the answer to a question about the sets or the disks."""
    if word == "status":
        return status(pool)
    catalog = pool.catalog()
    if word == "sets":
        return catalog.sets()
    name = arguments[0]
    if word == "snapshots":
        return [snap for snap, _ in catalog.snapshots(name)]
    if word == "limit_of":
        return catalog.limit(name)
    return send(catalog, name, arguments[1], arguments[2])


def make_transaction_call(pool, word, arguments):
    """Make a transaction call, and return its answer."""
    if word == "begin":
        return begin(pool)
    number = arguments[0]
    if word == "within":
        return within(pool, number, arguments[1])
    if word == "finish":
        return finish(pool, number)
    return abandon(pool, number)


def make_checkpoint_call(pool, word):
    """Keep, restore or forget a state, and return the requests."""
    if word == "checkpoint":
        if pool.checkpoint is not None:
            raise AlreadyExists("a checkpoint is kept")
        return pool.commit(pool.root, (pool.root,), pool.spares)
    if pool.checkpoint is None:
        raise NotFound("no checkpoint is kept")
    if word == "rewind":
        return pool.commit_root(pool.checkpoint[0])
    return pool.commit(pool.root, None, pool.spares)


def make_pool_call(pool, word, arguments):
    """Make a pool call; return its answer and the requests."""
    if word == "sync":
        return None, pool.sync()
    if word == "commit":
        return None, pool.commit_all()
    if word == "scrub":
        return pool.scrub()
    if word == "heal":
        return heal(pool)
    disk = arguments[0]
    if word == "add":
        return None, add(pool, disk)
    if word == "activate":
        return None, activate(pool, disk)
    return None, retire(pool, disk)


def make_set_call(pool, word, arguments):
    """Change the sets and commit; return the requests."""
    catalog = pool.catalog()
    if word == "receive":
        words, name, snap = arguments
        receive(catalog, words, name, snap)
    else:
        change_catalog(pool, catalog, word, arguments)
    requests = pool.commit_root(catalog.root)
    if word == "snapshot":
        pool.snapped += 1
    return requests


def change_catalog(pool, catalog, word, arguments):
    """Call the method of the catalog that belongs to the call."""
    name = arguments[0]
    if word == "new_set":
        catalog.new_set(name)
    elif word == "snapshot":
        catalog.snapshot(name, arguments[1], (pool.label.pool, pool.store.epoch, pool.snapped))
    elif word == "clone":
        catalog.clone(name, arguments[1], arguments[2])
    elif word == "rollback":
        catalog.rollback(name, arguments[1])
    elif word == "drop_snapshot":
        catalog.drop_snapshot(name, arguments[1])
    elif word == "drop_set":
        catalog.drop_set(name)
    else:
        catalog.set_limit(name, arguments[1])
