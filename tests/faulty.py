"""Disks with faults (point 61), and a machine on them."""

from drawn import any_call, warm_calls
from helpers import carry_out
from pool_model import Machine, check_requests, plain_state, result, state
from paritypool.audit import audit
from paritypool.errors import Damaged, NoPool, NoSpace, NotEnoughDisks
from paritypool.system import mount

FLUSH = ("flush",)


class FaultyDisks:
    """The images of disks, some of which have faults."""

    def __init__(self, disks, rows, chosen):
        self.chosen = chosen
        self.rows = rows
        self.images = [[None] * rows for _ in range(disks)]
        # What absent disks have.
        self.away = {}
        # Write requests that are carried out later.
        self.late = []
        # Rows with changed words that were not written again.
        self.changed = set()
        # The disks that may have faults now, and those that have had some since they were last in order.
        self.bad = []
        self.suspect = set()

    def rows_of(self, disk):
        return self.away.get(disk, self.images[disk])

    def store(self, disk, row, sector):
        self.rows_of(disk)[row] = list(sector)
        self.changed.discard((disk, row))

    def write(self, request, gentle):
        _, disk, row, sector = request
        share = self.chosen.random()
        if gentle or disk not in self.bad or share < 0.75:
            self.store(disk, row, sector)
            return
        self.suspect.add(disk)
        if share < 0.83:
            return
        if share < 0.91:
            self.store(disk, self.chosen.choice([0, 1, 2, 18, 19, self.chosen.randrange(self.rows)]), sector)
        else:
            self.late.append(request)

    def carry_out(self, requests, gentle=False):
        for request in requests:
            if request != FLUSH:
                self.write(request, gentle)

    def cut(self, requests):
        """Carry out some of the requests, as a power cut leaves them."""
        done = self.chosen.randrange(len(requests) + 1)
        flushed = max([at + 1 for at in range(done) if requests[at] == FLUSH], default=0)
        self.carry_out(requests[:flushed])
        kind = self.chosen.choice(["lasts", "lost", "torn", None])
        for request in requests[flushed:done]:
            fate = kind or self.chosen.choice(["lasts", "lost", "torn"])
            if fate == "lasts":
                self.carry_out([request])
            elif fate == "torn":
                self.rows_of(request[1])[request[2]] = None
        return done

    def write_late(self):
        """Some of the late writes are carried out now."""
        for request in list(self.late):
            if self.chosen.random() < 0.4:
                self.late.remove(request)
                self.store(*request[1:])

    def hurt(self):
        """A fault of one of the bad disks."""
        disk = self.chosen.choice(self.bad)
        self.suspect.add(disk)
        kind = self.chosen.choice(["absent", "back", "back", "blank", "row", "rows", "words", "words"])
        if kind == "absent" and disk not in self.away:
            self.away[disk] = self.images[disk]
            self.images[disk] = None
        elif kind == "back" and disk in self.away:
            self.images[disk] = self.away.pop(disk)
        elif kind == "blank":
            self.rows_of(disk)[:] = [None] * self.rows
        elif kind in ("row", "rows"):
            for _ in range(1 if kind == "row" else 12):
                self.rows_of(disk)[self.some_row(disk)] = None
        elif kind == "words":
            for _ in range(6):
                self.change_words(disk, self.some_row(disk))

    def some_row(self, disk):
        written = [row for row, sector in enumerate(self.rows_of(disk)) if sector is not None]
        return self.chosen.choice(written or [0])

    def change_words(self, disk, row):
        sector = self.rows_of(disk)[row]
        if sector is None or (disk, row) in self.changed:
            return
        self.changed.add((disk, row))
        sector = list(sector)
        for at in self.chosen.sample(range(len(sector)), self.chosen.choice([1, 2])):
            sector[at] = (sector[at] + self.chosen.choice([1, 65520, self.chosen.randrange(1, 65521)])) % 65521
        self.rows_of(disk)[row] = sector

    def bring_back(self):
        for disk in list(self.away):
            self.images[disk] = self.away.pop(disk)

    def end_late(self):
        for request in self.late:
            self.store(*request[1:])
        self.late = []


class FaultyMachine(Machine):
    """A system on disks with faults, and a model without faults beside it."""

    def __init__(self, chosen, *, more_disks=0, disks=3, rows=300, any_faults=False, **more):
        self.chosen = chosen
        # With any number of faults, more errors are right, and a mount may find any state that was ever there.
        self.any_faults = any_faults
        self.tolerated = (NoSpace, Damaged, NotEnoughDisks, NoPool) if any_faults else (NoSpace,)
        Machine.__init__(self, disks=disks, rows=rows, more_disks=more_disks, **more)
        self.disks = FaultyDisks(disks + more_disks, rows, chosen)
        self.disks.images = self.images
        # The models that a mount may find.
        self.allowed = [self.model.mounted(0)]

    def do(self, *call, gentle=False, cut=False):
        """Make a call of both, with faults when its requests are carried out."""
        self.model.present = [rows is not None for rows in self.images]
        found = result(self.system.perform, self.images, call)
        if found in self.tolerated:
            return found
        expected = self.expected(call)
        requests = []
        if not isinstance(found, type):
            found, requests = found
            check_requests(requests, self.images, self.rows)
        if call[0] == "scrub":
            expected = found
        assert found == expected, (call, found, expected)
        self.allowed.append(self.model.mounted(0))
        if cut:
            self.disks.cut(requests)
            return found
        self.disks.carry_out(requests, gentle)
        if requests and not self.any_faults:
            self.allowed = self.allowed[-1:]
        return found

    def mount(self):
        """Mount behind a power cut, perhaps with power cuts during mounts; go on from what is there."""
        for _ in range(self.chosen.choice([0, 0, 0, 1, 2])):
            self.epoch += 1
            found = result(mount, self.images, self.epoch)
            if found not in self.tolerated:
                self.disks.cut(found[1])
            self.disturb()
        self.epoch += 1
        self.system, requests = mount(self.images, self.epoch)
        check_requests(requests, self.images, self.rows)
        self.disks.carry_out(requests)
        found = state(self.system, self.images)
        fitting = [model for model in self.allowed if self.fits(model, found)]
        assert fitting, "a state that never was"
        self.model = fitting[-1].mounted(self.epoch)
        self.allowed = [*(self.allowed if self.any_faults else []), self.model.mounted(0)]

    def check_state(self):
        """The system and a mount of a copy of the images tell what they must."""
        Machine.check_state(self)
        left = [None if rows is None else list(rows) for rows in self.images]
        system, requests = mount(left, self.epoch + 1)
        carry_out(left, requests)
        found = state(system, left)
        assert any(plain_state(model.catalog) == found for model in self.allowed), "a mount finds another state"

    def fits(self, model, found):
        kept = self.system._pool
        checkpoint = None if model.checkpoint is None else plain_state(model.checkpoint)
        if (kept.checkpoint is None) != (checkpoint is None):
            return False
        return (plain_state(model.catalog) == found and model.members == kept.store.members
                and model.spares == kept.spares)

    def disturb(self):
        """Perhaps some faults and late writes."""
        self.disks.write_late()
        if self.disks.bad and self.chosen.random() < 0.4:
            for _ in range(self.chosen.choice([1, 2, 5])):
                self.disks.hurt()

    def end_suspicion(self):
        """Put the disks in order, so that other ones may have faults."""
        self.disks.bad = []
        self.disks.bring_back()
        self.disks.end_late()
        found = self.do("scrub", gentle=True)
        assert not isinstance(found, type), found
        self.disks.suspect = set()
        assert self.do("scrub", gentle=True) == 0
        assert audit(self.images) == []

    def warm(self):
        for call in warm_calls(self.chosen, light=True):
            self.do(*call)

    def some_call(self):
        return any_call(self.chosen, light=True, numbers=self.model.transactions)
