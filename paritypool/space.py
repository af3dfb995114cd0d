"""The rows of one disk: which are free, used or waiting."""

from paritypool.errors import InvalidArgument, NoSpace

# The states of the rows that are not free. A used row is new or old.
NEW = 1
OLD = 2
WAITING = 3


class Space:
    """The rows of one disk from the first one on."""

    def __init__(self, rows, first):
        self._rows = rows
        self._first = first
        # The state of each row that is not free.
        self._states = {}
        # No row before this one is free; so the lowest free row need not be searched from the first one on.
        self._lowest = first

    def take(self):
        """Make the lowest free row used and new, and return it."""
        row = self._lowest
        while row in self._states:
            row += 1
        if row >= self._rows:
            raise NoSpace("no row of the disk is free")
        self._states[row] = NEW
        self._lowest = row + 1
        return row

    def claim(self, row):
        """Make a free row used and old."""
        if not self.is_free(row):
            raise InvalidArgument("this is not a free row")
        self._states[row] = OLD

    def give(self, row):
        """Make a used row free if it is new, and waiting if it is old."""
        state = self._states.get(row)
        if state is None or state == WAITING:
            raise InvalidArgument("this is not a used row")
        if state == OLD:
            self._states[row] = WAITING
        else:
            del self._states[row]
            self._lowest = min(self._lowest, row)

    def settle(self):
        """Make all waiting rows free and all new rows old."""
        self._states = {row: OLD for row, state in self._states.items() if state != WAITING}
        self._lowest = self._first

    def is_free(self, row):
        """Return whether the row is one of this disk's and is free."""
        return self._first <= row < self._rows and row not in self._states

    def free_count(self):
        """Return the number of free rows."""
        return self._rows - self._first - len(self._states)

    def used_rows(self):
        """Return the ascending list of the used rows."""
        return sorted([row for row, state in self._states.items() if state != WAITING])

    def waiting_rows(self):
        """Return the ascending list of the waiting rows."""
        return sorted([row for row, state in self._states.items() if state == WAITING])
