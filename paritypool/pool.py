"""The state of a mounted pool, and what all calls need of it: trees, commits and the journal."""

from paritypool.catalog import Catalog
from paritypool.errors import NoSpace, NotEnoughDisks
from paritypool.filecalls import make_tree_call
from paritypool.images import is_present
from paritypool.journal import note_places, note_requests
from paritypool.labels import Label, label_requests
from paritypool.limits import JOURNAL_ROWS
from paritypool.packing import pack, unpack

FLUSH = ("flush",)


def own_copy(value):
    """Return a copy of a value that shares no list with it."""
    return unpack(pack(value))


def live_blocks(store, roots):
    """Return the list of the pointers of all blocks of the catalogs with these roots and of their trees."""
    found = {}
    for root in roots:
        Catalog(store, root).add_live(found)
    return list(found)


def kept_roots(root, checkpoint):
    """Return the roots of the catalogs that a label keeps: the one of all sets, and that of the checkpoint."""
    return [root] if checkpoint is None else [root, checkpoint[0]]


class Pool:
    """The state of a mounted pool.

    A call that may raise an error assigns to the attributes only when nothing can fail any more.
    """

    def __init__(self, label, store):
        # The label of the last commit; the notes of this mount follow it.
        self.label = label
        self.store = store
        self.images = []
        # The root of the catalog, and a tuple of the one that the checkpoint keeps, or None.
        self.root, self.checkpoint = label.root
        self.spares = list(label.spares)
        # The open transactions by their numbers, and the number of those that were opened.
        self.transactions = {}
        self.begun = 0
        # How many snapshots the call of this name made.
        self.snapped = 0
        # The calls since the last commit that are not noted, and the first free place of the journal.
        self.pending = []
        self.place = 0

    def look(self, images):
        """Read the images from now on."""
        self.images = images
        self.store.look(images)

    def is_there(self, disk):
        """Return whether the disk is present."""
        return is_present(self.images, disk)

    def catalog(self):
        """Return the catalog of all sets. What is changed in it counts once its root is assigned or committed."""
        return Catalog(self.store, self.root)

    def roots(self, root, checkpoint):
        """Return the roots of these catalogs and of those that open transactions see, each once."""
        seen = [transaction.root for transaction in self.transactions.values()]
        return list({each: True for each in [*kept_roots(root, checkpoint), *seen]})

    def live(self):
        """Return the list of the pointers of all live blocks."""
        return live_blocks(self.store, self.roots(self.root, self.checkpoint))

    def trim(self, more=()):
        """Forget the new blocks that are not live, except for those of the catalogs with the roots in `more`."""
        self.store.trim(live_blocks(self.store, [*self.roots(self.root, self.checkpoint), *more]))

    def make_part(self, catalog, call):
        """Make a file call other than atomic on the catalog, or answer a question with a target."""
        try:
            return make_tree_call(catalog, call)
        except NoSpace:
            # Blocks that earlier calls left behind take room.
            self.trim([catalog.root])
        return make_tree_call(catalog, call)

    def make_file_call(self, call):
        """Make a file call, which may be atomic, and keep it for the journal."""
        catalog = self.catalog()
        parts = call[1] if call[0] == "atomic" else [call]
        for part in parts:
            self.make_part(catalog, part)
        self.root = catalog.root
        self.pending.append(own_copy(call))

    def commit(self, root, checkpoint, spares, leaving=()):
        """Make this the state that lasts, and return the requests. Members that leave have no live blocks."""
        live = live_blocks(self.store, self.roots(root, checkpoint))
        self.check_members([disk for disk in self.store.members if disk not in leaving])
        self.store.check_disks(live)
        # From here on, nothing can fail.
        requests = self.store.commit(live)
        for disk in leaving:
            self.store.drop_member(disk)
        self.root = root
        self.checkpoint = checkpoint
        self.spares = list(spares)
        self.label = self.next_label()
        self.pending = []
        self.place = 0
        disks = sorted([*self.store.members, *spares])
        return [*requests, *label_requests(self.images, self.label, disks), FLUSH]

    def check_members(self, members):
        """Raise an error if none of these members is present, so that nothing can be made last."""
        if not any([self.is_there(disk) for disk in members]):
            raise NotEnoughDisks("no member is present")

    def commit_root(self, root):
        """Make this catalog the one that lasts, and return the requests."""
        return self.commit(root, self.checkpoint, self.spares)

    def commit_all(self):
        """Make everything that was done last, and return the requests."""
        return self.commit_root(self.root)

    def next_label(self):
        """Return the label of a commit of the state."""
        last = self.label
        return Label(pool=last.pool, epoch=self.store.epoch, group=last.group + 1, data=last.data, parity=last.parity,
                     rows=last.rows, members=self.store.members, spares=self.spares,
                     root=(self.root, self.checkpoint))

    def sync(self):
        """Make everything that was done last, by a note if there is room for it, and return the requests."""
        if not self.pending:
            return [FLUSH]
        self.check_members(self.store.members)
        words = pack(self.pending)
        places = note_places(words)
        if self.place + places > JOURNAL_ROWS:
            return self.commit_all()
        requests = note_requests(self.images, self.store.members, self.label.stamp(), self.place, words)
        self.pending = []
        self.place += places
        return [*requests, FLUSH]

    def scrub(self):
        """Repair all live blocks and commit; return the number of the rewritten sectors and the requests."""
        repairs = self.store.repairs(self.live())
        return len(repairs), [*repairs, *self.commit_all()]
