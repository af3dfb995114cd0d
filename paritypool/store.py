"""The store: the blocks of one mount of a pool, on the rows of its members."""

from paritypool.errors import Damaged, InvalidArgument
from paritypool.images import is_present
from paritypool.limits import FIRST_ROW, MAX_PAYLOAD
from paritypool.space import Space
from paritypool.stripes import choose_disks, read_stripe, repair_stripe, write_stripe


class Store:
    """The blocks of one mount of a pool."""

    def __init__(self, *, data, parity, rows, members, epoch):
        self.data = data
        self.parity = parity
        self.rows = rows
        self.members = list(members)
        self.epoch = epoch
        self._images = []
        self._made = 0
        self._spaces = {disk: Space(rows, FIRST_ROW) for disk in members}
        # The pointers of all blocks of the store. It also has those that are in memory.
        self._blocks = {}
        # The words of each new block, in the order of the serials.
        self._memory = {}

    def look(self, images):
        """Read the images from now on, as they are at the time of each later call."""
        self._images = images

    def claim(self, pointers):
        """Add existing blocks to the store."""
        added = {pointer: True for pointer in pointers}
        claimed = [place for _, _, _, places in added for place in places]
        # Nothing is claimed before everything is checked.
        if len(set(claimed)) < len(claimed):
            raise Damaged("two blocks have the same row")
        for disk, row in claimed:
            if disk not in self._spaces or not self._spaces[disk].is_free(row):
                raise Damaged("a block is in a row that is not free, or on a disk that is no member")
        for disk, row in claimed:
            self._spaces[disk].claim(row)
        for pointer in added:
            self._blocks[pointer] = True

    def put(self, words, *, avoid=()):
        """Make a new block, and return its pointer."""
        if len(words) > MAX_PAYLOAD * self.data:
            raise InvalidArgument("the block is too long")
        candidates = [
            (disk, is_present(self._images, disk), free) for disk, free in self.free_counts() if disk not in avoid
        ]
        disks = choose_disks(candidates, self.data + self.parity)
        places = tuple([(disk, self._spaces[disk].take()) for disk in disks])
        pointer = (self.epoch, self._made, len(words), places)
        self._made += 1
        self._blocks[pointer] = True
        self._memory[pointer] = list(words)
        return pointer

    def get(self, pointer):
        """Return the words of a block."""
        if pointer in self._memory:
            return list(self._memory[pointer])
        epoch, serial, length, places = pointer
        return read_stripe(self._images, places, (epoch, serial), length, self.data)

    def commit(self, live):
        """Return the requests that write the new live blocks, and forget all blocks that are not live."""
        kept = {pointer: True for pointer in live}
        requests = []
        for pointer, words in self._memory.items():
            if pointer in kept:
                epoch, serial, _, places = pointer
                requests.extend(write_stripe(self._images, places, (epoch, serial), words, self.data))
        requests.append(("flush",))
        self._forget([pointer for pointer in self._blocks if pointer not in kept])
        self._memory = {}
        for disk in self.members:
            self._spaces[disk].settle()
        return requests

    def trim(self, live):
        """Forget the new blocks that are not live."""
        kept = {pointer: True for pointer in live}
        self._forget([pointer for pointer in self._memory if pointer not in kept])

    def _forget(self, pointers):
        """Give the rows of the blocks, which are no longer in the store."""
        for pointer in pointers:
            for disk, row in pointer[3]:
                self._spaces[disk].give(row)
            del self._blocks[pointer]
            if pointer in self._memory:
                del self._memory[pointer]

    def repairs(self, live):
        """Return the requests that repair the blocks, except for new ones."""
        requests = []
        repaired = {pointer: True for pointer in live if pointer not in self._memory}
        for pointer in repaired:
            epoch, serial, length, places = pointer
            requests.extend(repair_stripe(self._images, places, (epoch, serial), length, self.data))
        return requests

    def add_member(self, disk):
        """Make the disk a member, all of whose rows are free."""
        if disk in self._spaces:
            raise InvalidArgument("the disk is a member")
        self.members = sorted([*self.members, disk])
        self._spaces[disk] = Space(self.rows, FIRST_ROW)

    def drop_member(self, disk):
        """Make the disk no member any more."""
        if disk not in self._spaces:
            raise InvalidArgument("the disk is no member")
        if self._spaces[disk].used_rows() or self._spaces[disk].waiting_rows():
            raise InvalidArgument("the disk has rows that are not free")
        self.members = [member for member in self.members if member != disk]
        del self._spaces[disk]

    def free_counts(self):
        """Return the pairs of each member and the number of its free rows, in ascending order."""
        return [(disk, self._spaces[disk].free_count()) for disk in self.members]
