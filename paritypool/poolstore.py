"""The store of a mounted pool."""

from paritypool.errors import NotEnoughDisks
from paritypool.images import is_present
from paritypool.store import Store


class PoolStore(Store):
    """A store that keeps the words of the blocks that it made, also behind a commit, as long as they are live.

    So calls are answered even before the requests of the commit are carried out.
    """

    def __init__(self, *, data, parity, rows, members, epoch):
        super().__init__(data=data, parity=parity, rows=rows, members=members, epoch=epoch)
        self._kept = {}

    def get(self, pointer):
        """Return the words of a block."""
        if pointer in self._kept:
            return list(self._kept[pointer])
        return super().get(pointer)

    def commit(self, live):
        """Return the requests that write the new live blocks, and forget all blocks that are not live."""
        known = {pointer: True for pointer in live}
        made = list(self._kept.items()) + list(self._memory.items())
        requests = super().commit(live)
        self._kept = {pointer: words for pointer, words in made if pointer in known}
        return requests

    def check_disks(self, live):
        """Raise an error if a new live block would be stored on too few disks to be read again."""
        for pointer in live:
            there = [disk for disk, _ in pointer[3] if is_present(self._images, disk)]
            if pointer in self._memory and len(there) < self.data:
                raise NotEnoughDisks("too few disks are present for a new block")

    def made(self):
        """Return the number of the blocks that were made."""
        return self._made

    def undo(self, made):
        """Forget the new blocks that were made since this was their number."""
        self._forget([pointer for pointer in self._memory if pointer[1] >= made])
