"""A plain model of a whole pool, straight from points 45 to 60, and what tests of systems need."""

import copy
import re

from helpers import carry_out, check_words_by_hand
from models import CatalogModel, TreeModel, pages_of
from paritypool.errors import (
    AlreadyExists, Busy, Conflict, InvalidArgument, InvalidCall, InvalidName, NotEnoughDisks, NotFound, OverLimit,
    PoolError, ReadOnly, WrongBase, WrongStream,
)
from paritypool.packing import pack, unpack
from paritypool.system import create, mount

FILE_CALLS = {"make_directory": "tp", "create": "tp", "write": "tpiw", "truncate": "tps", "remove": "tp",
              "rename": "tpp", "copy": "tpp"}
TREE_QUESTIONS = {"read": "tpii", "listing": "tp", "describe": "tp", "contents": "t", "usage": "t"}
QUESTIONS = {**TREE_QUESTIONS, "sets": "", "snapshots": "n", "send": "nbn", "limit_of": "n", "status": ""}
SET_CALLS = {"new_set": "n", "snapshot": "nn", "clone": "nnn", "rollback": "nn", "drop_snapshot": "nn",
             "drop_set": "n", "limit": "ng", "receive": "fnn", "checkpoint": "", "rewind": "", "drop_checkpoint": ""}
POOL_CALLS = {"sync": "", "commit": "", "scrub": "", "add": "f", "activate": "f", "retire": "f", "heal": ""}
TRANSACTION_CALLS = {"begin": "", "within": "ff", "finish": "f", "abandon": "f"}
CALLS = {**FILE_CALLS, "atomic": "f", **QUESTIONS, **SET_CALLS, **POOL_CALLS, **TRANSACTION_CALLS}

NAME = "[a-z0-9-]{1,12}"


def is_right(kind, argument):
    if kind == "b" and argument is None:
        return True
    if kind in "nb":
        return isinstance(argument, str) and re.fullmatch(NAME, argument) is not None
    if kind == "t":
        return isinstance(argument, str) and re.fullmatch(f"{NAME}(@{NAME})?", argument) is not None
    if kind == "p":
        return isinstance(argument, str) and len(argument) <= 60 and (
            re.fullmatch(f"({NAME}(/{NAME})*)?", argument) is not None)
    return True


def check_part(call, allowed):
    if len(call) == 0 or call[0] not in CALLS or len(call) != len(CALLS[call[0]]) + 1:
        raise InvalidCall
    if call[0] not in allowed:
        raise InvalidCall
    arguments = list(zip(CALLS[call[0]], call[1:]))
    for kind, argument in arguments:
        if not is_right(kind, argument):
            raise InvalidName
    for kind, argument in arguments:
        if kind == "i" and argument < 0 or kind == "s" and not 0 <= argument <= 4096:
            raise InvalidArgument
        if kind == "g" and argument is not None and not 0 <= argument <= 60000:
            raise InvalidArgument
    if call[0] == "write" and call[3] + len(call[4]) > 4096:
        raise InvalidArgument
    if call[0] in FILE_CALLS and "@" in call[1]:
        raise ReadOnly


def check(call):
    check_part(call, CALLS)
    if call[0] == "atomic":
        for part in call[1]:
            check_part(part, FILE_CALLS)
    if call[0] == "within":
        check_part(call[2], {**FILE_CALLS, **TREE_QUESTIONS})


def changes_by_hand(old, new):
    before = {path: (kind, words) for path, kind, words in old}
    after = {path: (kind, words) for path, kind, words in new}
    found = []
    for path in sorted({*before, *after}):
        if path not in after:
            found.append((path, "gone"))
            continue
        kind, words = after[path]
        if before.get(path) == after[path]:
            continue
        if kind == "directory":
            found.append((path, "directory"))
            continue
        base = before[path][1] if path in before and before[path][0] == "file" else []
        base = (base + [0] * 5000)[:len(words)]
        pages = [(number, page) for number, page in enumerate(pages_of(words)) if page != pages_of(base)[number]]
        found.append((path, "file", len(words), pages))
    return found


def apply_by_hand(old, changed):
    found = {path: (kind, words) for path, kind, words in old}
    for path, kind, *more in changed:
        if kind == "gone":
            del found[path]
        elif kind == "directory":
            found[path] = (kind, None)
        else:
            words = found[path][1] if path in found and found[path][0] == "file" else []
            words = (words + [0] * 5000)[:more[0]]
            for number, page in more[1]:
                words[16 * number:16 * number + len(page)] = page
            found[path] = (kind, words)
    return [(path, *found[path]) for path in sorted(found)]


def stream_by_hand(base, identity, changed):
    words = pack(("paritypool", base, identity, changed))
    return words + list(check_words_by_hand(words))


class Transaction:
    def __init__(self, catalog):
        self.catalog = copy.deepcopy(catalog)
        self.calls = []


def make_part(catalog, call):
    """Make a file call other than atomic, or answer a question with a target."""
    word, target, *arguments = call
    name, _, snap = target.partition("@")
    tree = copy.deepcopy(catalog.tree_root(name, snap or None))
    if word in TREE_QUESTIONS:
        return getattr(tree, word)(*copy.deepcopy(arguments))
    before = tree.usage()[1]
    getattr(tree, word)(*copy.deepcopy(arguments))
    limit = catalog.limit(name)
    if limit is not None and tree.usage()[1] > limit and tree.usage()[1] > before:
        raise OverLimit
    catalog.set_root(name, tree)
    return None


class PoolModel:
    """The state of a pool without faults. `present` tells which disks of the images are there."""

    def __init__(self, *, disks, data, parity, pool, epoch):
        self.data, self.parity, self.pool, self.epoch = data, parity, pool, epoch
        self.members, self.spares = list(range(disks)), []
        self.present = [True] * disks
        self.catalog, self.checkpoint = CatalogModel(), None
        self.transactions, self.begun, self.snapped = {}, 0, 0

    def mounted(self, epoch):
        """The model behind a mount."""
        new = copy.deepcopy(self)
        new.epoch, new.transactions, new.begun, new.snapped = epoch, {}, 0, 0
        return new

    def is_there(self, disk):
        return 0 <= disk < len(self.present) and self.present[disk]

    def load(self):
        catalogs = [self.catalog, *[each.catalog for each in self.transactions.values()]]
        if self.checkpoint is not None:
            catalogs.append(self.checkpoint)
        return sum(catalog.load() for catalog in catalogs)

    def perform(self, call):
        """The answer; a call that raises an error changes nothing (but finish may end its transaction)."""
        check(call)
        saved = copy.deepcopy(self.__dict__)
        try:
            return self.make(*copy.deepcopy(call))
        except Conflict:
            saved["transactions"].pop(call[1])
            self.__dict__ = saved
            raise
        except PoolError:
            self.__dict__ = saved
            raise

    def make(self, word, *arguments):
        if word in FILE_CALLS or word in TREE_QUESTIONS:
            return make_part(self.catalog, (word, *arguments))
        if word == "atomic":
            for part in arguments[0]:
                make_part(self.catalog, part)
            return None
        if word in ("sync", "commit", "scrub"):
            return None
        return getattr(self, word)(*arguments)

    def sets(self):
        return self.catalog.sets()

    def snapshots(self, name):
        return [snap for snap, _ in self.catalog.snapshots(name)]

    def limit_of(self, name):
        return self.catalog.limit(name)

    def status(self):
        words = []
        for disk, there in enumerate(self.present):
            kind = "active" if disk in self.members else "spare" if disk in self.spares else "unused"
            words.append(kind if there or kind == "unused" else "absent")
        return words

    def send(self, name, base, snap):
        identities = dict(self.catalog.snapshots(name))
        if base is not None and base not in identities:
            raise NotFound
        if snap not in identities:
            raise NotFound
        old = []
        if base is not None:
            if list(identities).index(base) >= list(identities).index(snap):
                raise InvalidArgument
            old = self.catalog.tree_root(name, base).contents()
        new = self.catalog.tree_root(name, snap).contents()
        return stream_by_hand(identities.get(base), identities[snap], changes_by_hand(old, new))

    def receive(self, stream, name, snap):
        if len(stream) < 3 or tuple(stream[-2:]) != check_words_by_hand(stream[:-2]):
            raise WrongStream
        value = unpack(stream[:-2])
        if not isinstance(value, tuple) or len(value) != 4 or value[0] != "paritypool":
            raise WrongStream
        _, base, identity, changed = value
        if base is None:
            self.catalog.new_set(name, TreeModel())
        else:
            snapshots = self.catalog.snapshots(name)
            if snap in [each for each, _ in snapshots]:
                raise AlreadyExists
            if not snapshots or snapshots[-1][1] != base:
                raise WrongBase
            if self.catalog.tree_root(name, snapshots[-1][0]).table != self.catalog.tree_root(name).table:
                raise WrongBase
        contents = apply_by_hand(self.catalog.tree_root(name).contents(), changed)
        self.catalog.set_root(name, TreeModel({path: words for path, _, words in contents}))
        self.catalog.snapshot(name, snap, identity)

    def new_set(self, name):
        self.catalog.new_set(name, TreeModel())

    def snapshot(self, name, snap):
        self.catalog.snapshot(name, snap, (self.pool, self.epoch, self.snapped))
        self.snapped += 1

    def clone(self, name, snap, new):
        self.catalog.clone(name, snap, new)

    def rollback(self, name, snap):
        self.catalog.rollback(name, snap)

    def drop_snapshot(self, name, snap):
        self.catalog.drop_snapshot(name, snap)

    def drop_set(self, name):
        self.catalog.drop_set(name)

    def limit(self, name, pages):
        self.catalog.set_limit(name, pages)

    def keep(self):
        return copy.deepcopy(self.catalog)

    def find_checkpoint(self):
        if self.checkpoint is None:
            raise NotFound

    def rewind(self):
        self.find_checkpoint()
        self.catalog = copy.deepcopy(self.checkpoint)

    def drop_checkpoint(self):
        self.find_checkpoint()
        self.checkpoint = None

    def begin(self):
        if len(self.transactions) >= 8:
            raise Busy
        self.transactions[self.begun] = Transaction(self.catalog)
        self.begun += 1
        return self.begun - 1

    def find_transaction(self, number):
        if number not in self.transactions:
            raise NotFound
        return self.transactions[number]

    def within(self, number, call):
        transaction = self.find_transaction(number)
        before = copy.deepcopy(transaction.catalog)
        try:
            answer = make_part(transaction.catalog, call)
        except PoolError as error:
            transaction.catalog = before
            transaction.calls.append((call, error.__class__))
            self.kept_transactions = self.transactions
            raise
        transaction.calls.append((call, copy.deepcopy(answer)))
        return answer

    def finish(self, number):
        for call, told in self.find_transaction(number).calls:
            before = copy.deepcopy(self.catalog)
            try:
                found = make_part(self.catalog, call)
            except PoolError as error:
                self.catalog = before
                found = error.__class__
            if found != told:
                raise Conflict
        del self.transactions[number]

    def abandon(self, number):
        self.find_transaction(number)
        del self.transactions[number]

    def add(self, disk):
        if not 0 <= disk <= 7 or not self.is_there(disk) or disk in self.members + self.spares:
            raise InvalidArgument
        self.spares = sorted(self.spares + [disk])

    def activate(self, disk):
        if disk not in self.spares or not self.is_there(disk):
            raise InvalidArgument
        self.spares.remove(disk)
        self.members = sorted(self.members + [disk])

    def retire(self, disk):
        if disk in self.spares:
            self.spares.remove(disk)
            return
        if disk not in self.members:
            raise InvalidArgument
        if len(self.members) - 1 < self.data + self.parity:
            raise NotEnoughDisks
        if self.transactions:
            raise Busy
        self.members.remove(disk)

    def heal(self):
        if self.transactions:
            raise Busy
        absent = [disk for disk in self.members if not self.is_there(disk)]
        ready = [disk for disk in self.spares if self.is_there(disk)]
        many = min(len(absent), len(ready))
        self.members = sorted([disk for disk in self.members if disk not in absent[:many]] + ready[:many])
        self.spares = [disk for disk in self.spares if disk not in ready[:many]]
        return many


# The call `checkpoint` and the attribute cannot have one name.
def make_checkpoint(self):
    if self.checkpoint is not None:
        raise AlreadyExists
    self.checkpoint = self.keep()


def plain_state(catalog):
    """Everything in a model of a catalog, as state() tells it."""
    return [
        (name, catalog.limit(name), catalog.tree_root(name).contents(),
         [(snap, catalog.tree_root(name, snap).contents()) for snap, _ in catalog.snapshots(name)])
        for name in catalog.sets()
    ]


def state(system, images):
    """Everything that can be asked of a system about its sets."""
    def ask(*call):
        answer, requests = system.perform(images, call)
        assert requests == [], call
        return answer

    return [
        (name, ask("limit_of", name), ask("contents", name),
         [(snap, ask("contents", name + "@" + snap)) for snap in ask("snapshots", name)])
        for name in ask("sets")
    ]


def result(perform, *arguments):
    """The answer, or the class of the error."""
    try:
        return perform(*arguments)
    except PoolError as error:
        return error.__class__


def check_requests(requests, images, rows):
    """Requests have the documented form, are for present disks, and are scheduled."""
    last = None
    for request in requests:
        assert isinstance(request, tuple)
        if request == ("flush",):
            assert last != ("flush",)
            last = request
            continue
        word, disk, row, sector = request
        assert word == "write" and disk < len(images) and images[disk] is not None and 0 <= row < rows, request[:3]
        assert all(isinstance(each, int) and 0 <= each <= 65520 for each in sector)
        if last is not None and last != ("flush",):
            assert (last[1], last[2]) < (disk, row)
        last = request


class Machine:
    """A system, its images and a model beside it."""

    def __init__(self, *, disks=3, rows=300, data=2, parity=1, pool=7, epoch=1, more_disks=0):
        self.rows = rows
        self.epoch = epoch
        self.images = [[None] * rows for _ in range(disks + more_disks)]
        self.system, requests = create(disks=disks, rows=rows, data=data, parity=parity, pool=pool, epoch=epoch)
        check_requests(requests, self.images, rows)
        carry_out(self.images, requests)
        self.model = PoolModel(disks=disks, data=data, parity=parity, pool=pool, epoch=epoch)

    def do(self, *call):
        """Make a call of both; the answer, or the class of the error."""
        self.model.present = [rows is not None for rows in self.images]
        expected = self.expected(call)
        mine = copy.deepcopy(call)
        found = result(self.system.perform, self.images, mine)
        assert mine == call
        requests = []
        if not isinstance(found, type):
            found, requests = found
            check_requests(requests, self.images, self.rows)
            carry_out(self.images, requests)
        self.requests = requests
        if call and call[0] == "scrub":
            expected = found
        assert found == expected, (call, found, expected)
        return found

    def expected(self, call):
        if call == ("checkpoint",):
            return result(make_checkpoint, self.model)
        if call[:1] == ("within",):
            return self.within(call)
        return result(self.model.perform, call)

    def within(self, call):
        """A call that raises an error within a transaction is kept there."""
        error = result(check, call)
        return error if isinstance(error, type) else result(self.model.within, call[1], copy.deepcopy(call[2]))

    def check_state(self):
        assert state(self.system, self.images) == plain_state(self.model.catalog)

    def mount(self):
        self.epoch += 1
        self.system, requests = mount(self.images, self.epoch)
        check_requests(requests, self.images, self.rows)
        carry_out(self.images, requests)
        self.model = self.model.mounted(self.epoch)
