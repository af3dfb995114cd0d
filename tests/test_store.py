import copy
import inspect
import unittest

from helpers import blank, carry_out, seeded, some_words
from paritypool.errors import Damaged, InvalidArgument, NoSpace, NotEnoughDisks
from paritypool.sector import seal
from paritypool.store import Store
from paritypool.stripes import write_stripe

FLUSH = ("flush",)


def new_store(images, *, data=2, parity=1, rows=64, members=(0, 1, 2, 3), epoch=5):
    store = Store(data=data, parity=parity, rows=rows, members=list(members), epoch=epoch)
    store.look(images)
    return store


def writes_by_hand(images, pointer, words, data):
    epoch, serial, _, places = pointer
    return write_stripe(images, places, (epoch, serial), words, data)


class Account:
    """A plain account of a store: its blocks with their words, and from them the free rows of each member."""

    def __init__(self, *, data, parity, rows, members, epoch):
        self.data, self.width, self.rows, self.epoch = data, data + parity, rows, epoch
        self.members = list(members)
        self.made = 0
        self.blocks = {}
        self.memory = []

    def free_rows(self, disk):
        used = [place for pointer in self.blocks for place in pointer[3]]
        return [row for row in range(18, self.rows) if (disk, row) not in used]

    def free_counts(self):
        return [(disk, len(self.free_rows(disk))) for disk in sorted(self.members)]

    def put(self, images, words, avoid):
        """The pointer of the block, or the class of the error."""
        if len(words) > 1000 * self.data:
            return InvalidArgument
        free = {disk: self.free_rows(disk) for disk in self.members if disk not in avoid}
        if len(free) < self.width:
            return NotEnoughDisks
        ranked = [disk for disk in free if free[disk]]
        if len(ranked) < self.width:
            return NoSpace

        def rank(disk):
            absent = disk >= len(images) or images[disk] is None
            return absent, -len(free[disk]), disk

        places = tuple((disk, free[disk][0]) for disk in sorted(sorted(ranked, key=rank)[:self.width]))
        pointer = (self.epoch, self.made, len(words), places)
        self.made += 1
        self.blocks[pointer] = list(words)
        self.memory.append(pointer)
        return pointer

    def commit(self, images, live):
        requests = []
        for pointer in sorted(self.memory, key=lambda pointer: pointer[1]):
            if pointer in live:
                requests.extend(writes_by_hand(images, pointer, self.blocks[pointer], self.data))
        self.blocks = {pointer: words for pointer, words in self.blocks.items() if pointer in live}
        self.memory = []
        return requests + [FLUSH]

    def trim(self, live):
        dropped = [pointer for pointer in self.memory if pointer not in live]
        self.blocks = {pointer: words for pointer, words in self.blocks.items() if pointer not in dropped}
        self.memory = [pointer for pointer in self.memory if pointer not in dropped]


class Attributes(unittest.TestCase):
    def test_the_attributes(self):
        members = [1, 3, 4]
        store = Store(data=2, parity=1, rows=100, members=members, epoch=9)
        self.assertEqual((store.data, store.parity, store.rows, store.members, store.epoch), (2, 1, 100, [1, 3, 4], 9))
        self.assertIs(type(store.members), list)
        members.append(7)
        self.assertEqual(store.members, [1, 3, 4])
        self.assertEqual(store.free_counts(), [(1, 82), (3, 82), (4, 82)])

    def test_only_keywords(self):
        with self.assertRaises(TypeError):
            Store(2, 1, 64, [0, 1, 2], 1)
        with self.assertRaises(TypeError):
            new_store(blank(4)).put([1], (2,))

    def test_a_store_without_blocks(self):
        store = new_store(blank(4))
        self.assertEqual(store.free_counts(), [(0, 46), (1, 46), (2, 46), (3, 46)])
        self.assertEqual(store.repairs([]), [])
        self.assertIsNone(store.claim([]))
        self.assertIsNone(store.trim([]))
        self.assertEqual(store.commit([]), [FLUSH])
        self.assertEqual(store.free_counts(), [(0, 46), (1, 46), (2, 46), (3, 46)])
        self.assertIsNone(store.look([]))

    def test_two_stores_beside_each_other(self):
        first, second = new_store(blank(4)), new_store(blank(4))
        first.put([1])
        self.assertEqual(second.free_counts(), [(0, 46), (1, 46), (2, 46), (3, 46)])
        self.assertEqual(second.put([1]), (5, 0, 1, ((0, 18), (1, 18), (2, 18))))


class Put(unittest.TestCase):
    def test_pointers(self):
        store = new_store(blank(4))
        self.assertEqual(store.put([7, 8, 9]), (5, 0, 3, ((0, 18), (1, 18), (2, 18))))
        self.assertEqual(store.put([]), (5, 1, 0, ((0, 19), (1, 19), (3, 18))))
        self.assertEqual(store.put([1], avoid=[0]), (5, 2, 1, ((1, 20), (2, 19), (3, 19))))
        self.assertEqual(store.put([1], avoid=(2,)), (5, 3, 1, ((0, 20), (1, 21), (3, 20))))
        self.assertEqual(store.free_counts(), [(0, 43), (1, 42), (2, 44), (3, 43)])

    def test_present_disks_come_first(self):
        images = blank(5)
        images[1] = None
        store = new_store(images, members=[0, 1, 2, 3, 5])
        self.assertEqual(store.put([1])[3], ((0, 18), (2, 18), (3, 18)))
        self.assertEqual(store.put([1])[3], ((0, 19), (2, 19), (3, 19)))
        images[3] = None
        images[1] = [None] * 64
        self.assertEqual(store.put([1])[3], ((0, 20), (1, 18), (2, 20)))
        store.look([])
        self.assertEqual(store.put([1])[3], ((1, 19), (3, 20), (5, 18)))

    def test_avoid_as_a_list_and_as_a_tuple(self):
        for avoid in ([1, 3], (1, 3), [1, 3, 9], (3, 1, 1)):
            store, before = new_store(blank(5), members=[0, 1, 2, 3, 4]), copy.copy(avoid)
            self.assertEqual(store.put([1], avoid=avoid)[3], ((0, 18), (2, 18), (4, 18)))
            self.assertEqual(avoid, before)
            with self.assertRaises(NotEnoughDisks):
                store.put([1], avoid=[*avoid, 0])

    def test_what_is_refused_uses_nothing(self):
        store = new_store(blank(4), rows=20)
        store.put([1])
        counts = store.free_counts()
        for words, avoid, error in (([0] * 2001, (), InvalidArgument), ([0] * 2001, (0, 1), InvalidArgument),
                                    ([0], (0, 1), NotEnoughDisks), ([0], [0, 1, 2, 3], NotEnoughDisks)):
            with self.assertRaises(error):
                store.put(words, avoid=avoid)
            self.assertEqual(store.free_counts(), counts)
        # Disk 3 was not used yet, and all disks have 2 rows.
        self.assertEqual(store.put([0] * 2000), (5, 1, 2000, ((0, 19), (1, 19), (3, 18))))
        self.assertEqual(store.free_counts(), [(0, 0), (1, 0), (2, 1), (3, 1)])
        for words, avoid, error in (([0], (), NoSpace), ([0], (0,), NoSpace), ([0], (0, 1), NotEnoughDisks),
                                    ([0] * 2001, (), InvalidArgument)):
            with self.assertRaises(error):
                store.put(words, avoid=avoid)
        self.assertEqual(store.free_counts(), [(0, 0), (1, 0), (2, 1), (3, 1)])
        store.trim([])
        self.assertEqual(store.put([1])[1], 2)

    def test_longest_blocks(self):
        for data, parity in ((1, 0), (1, 1), (3, 1)):
            images = blank(4)
            store = new_store(images, data=data, parity=parity)
            with self.assertRaises(InvalidArgument):
                store.put([1] * (1000 * data + 1))
            words = some_words(seeded(50), 1000 * data)
            pointer = store.put(words)
            self.assertEqual(pointer[1:3], (0, 1000 * data))
            carry_out(images, store.commit([pointer]))
            self.assertEqual(store.get(pointer), words)

    def test_kinds_of_a_pointer(self):
        epoch, serial, length, places = new_store(blank(4)).put([7, 8, 9])
        self.assertEqual([type(part) for part in (epoch, serial, length, places)], [int, int, int, tuple])
        self.assertEqual([type(place) for place in places], [tuple] * 3)


class Get(unittest.TestCase):
    def test_from_memory(self):
        store = new_store([])
        words = [7, 8, 9]
        pointer, empty = store.put(words), store.put([])
        words.append(1)
        self.assertEqual(store.get(pointer), [7, 8, 9])
        store.get(pointer).append(5)
        self.assertEqual(store.get(pointer), [7, 8, 9])
        self.assertEqual(store.get(empty), [])

    def test_in_memory_until_the_commit(self):
        images = blank(4)
        store = new_store(images)
        pointer = store.put([7, 8, 9])
        requests = store.commit([pointer])
        with self.assertRaises(Damaged):
            store.get(pointer)
        carry_out(images, requests)
        self.assertEqual(store.get(pointer), [7, 8, 9])
        store.get(pointer).append(5)
        self.assertEqual(store.get(pointer), [7, 8, 9])

    def test_absent_disks_and_spoilt_rows(self):
        chosen = seeded(51)
        for _ in range(60):
            images = blank(6)
            store = new_store(images, data=2, parity=2, members=range(6))
            words = some_words(chosen, chosen.randrange(20))
            pointer = store.put(words)
            carry_out(images, store.commit([pointer]))
            places = list(pointer[3])
            chosen.shuffle(places)
            for at, (disk, row) in enumerate(places):
                way = chosen.randrange(4)
                if way == 0:
                    images[disk] = None
                elif way == 1:
                    images[disk][row] = None
                elif way == 2:
                    images[disk][row][-1] = (images[disk][row][-1] + 1) % 65521
                else:
                    images[disk][row] = seal(3, disk, row, (4, 0), [0] * (len(words) + 1 >> 1))
                before = copy.deepcopy(images)
                if at < 2:
                    self.assertEqual(store.get(pointer), words)
                else:
                    with self.assertRaises(Damaged):
                        store.get(pointer)
                self.assertEqual(images, before)

    def test_later_changes_of_the_images_are_seen(self):
        images = []
        store = new_store(images, members=[0, 1, 2])
        pointer = store.put([7, 8, 9])
        self.assertEqual(store.commit([pointer]), [FLUSH])
        images.extend(blank(3))
        with self.assertRaises(Damaged):
            store.get(pointer)
        carry_out(images, writes_by_hand(images, pointer, [7, 8, 9], 2))
        self.assertEqual(store.get(pointer), [7, 8, 9])
        images[0] = None
        self.assertEqual(store.get(pointer), [7, 8, 9])
        self.assertEqual(store.repairs([pointer]), [])
        images[0] = [None] * 64
        self.assertEqual(store.repairs([pointer]), writes_by_hand(images, pointer, [7, 8, 9], 2)[:1])
        other = blank(3)
        store.look(other)
        with self.assertRaises(Damaged):
            store.get(pointer)
        carry_out(other, writes_by_hand(other, pointer, [7, 8, 9], 2))
        images.clear()
        self.assertEqual(store.get(pointer), [7, 8, 9])
        del other[1:]
        with self.assertRaises(Damaged):
            store.get(pointer)

    def test_blocks_of_an_earlier_mount(self):
        images = blank(4)
        first = new_store(images)
        pointers = [first.put([k, k + 1, k + 2]) for k in range(5)]
        carry_out(images, first.commit(pointers))
        second = new_store(images, epoch=6)
        second.claim(pointers)
        self.assertEqual([second.get(pointer) for pointer in pointers], [[k, k + 1, k + 2] for k in range(5)])
        self.assertEqual(second.free_counts(), first.free_counts())
        self.assertEqual(second.put([1])[:2], (6, 0))


class Claim(unittest.TestCase):
    def pointer(self, serial, *places, epoch=1, length=3):
        return (epoch, serial, length, tuple(places))

    def check_refused(self, store, pointers):
        counts, before = store.free_counts(), copy.deepcopy(pointers)
        with self.assertRaises(Damaged):
            store.claim(pointers)
        self.assertEqual(store.free_counts(), counts)
        self.assertEqual(pointers, before)

    def test_several_pointers_and_the_same_one_twice(self):
        store = new_store(blank(4))
        first = self.pointer(0, (0, 18), (1, 30), (2, 63))
        second = self.pointer(1, (0, 19), (1, 31), (3, 63))
        pointers = [first, second, first, second, first]
        self.assertIsNone(store.claim(pointers))
        self.assertEqual(pointers, [first, second, first, second, first])
        self.assertEqual(store.free_counts(), [(0, 44), (1, 44), (2, 45), (3, 45)])
        self.assertEqual(store.put([1])[3], ((0, 20), (2, 18), (3, 18)))
        for again in (first, second):
            self.check_refused(store, [again])
        store.claim([self.pointer(2, (0, 21), (1, 18), (2, 19))])

    def test_what_is_refused(self):
        good = self.pointer(0, (0, 18), (1, 18), (2, 18))
        for places in (((4, 18), (1, 20), (2, 20)), ((0, 20), (1, 20), (7, 20)), ((0, 20), (-1, 20), (2, 20)),
                       ((0, 17), (1, 20), (2, 20)), ((0, 20), (1, 0), (2, 20)), ((0, 20), (1, 20), (2, 64)),
                       ((0, -1), (1, 20), (2, 20)), ((0, 20), (1, 20), (2, 4000)),
                       # Rows of the pointer before.
                       ((0, 20), (1, 20), (2, 18)), ((0, 18), (1, 20), (2, 20)), ((0, 18), (1, 18), (2, 18))):
            for epoch in (1, 2):
                store = new_store(blank(4))
                bad = self.pointer(1, *places, epoch=epoch)
                self.check_refused(store, [good, bad])
                self.check_refused(store, [good, good, bad, good])
                self.check_refused(store, [bad, good])
                # Nothing was claimed: the rows are still there to be taken, and the good pointer to be claimed.
                self.assertEqual(store.put([1])[3], ((0, 18), (1, 18), (2, 18)))
                store.trim([])
                store.claim([good])
                self.check_refused(store, [bad])

    def test_a_row_that_is_new_or_old(self):
        images = blank(4)
        store = new_store(images)
        first = store.put([1])
        self.check_refused(store, [first])
        self.check_refused(store, [self.pointer(0, (0, 30), (1, 18), (2, 30))])
        carry_out(images, store.commit([first]))
        self.check_refused(store, [first])
        self.check_refused(store, [self.pointer(0, (0, 30), (1, 18), (2, 30))])
        store.commit([])
        store.claim([first])
        self.assertEqual(store.get(first), [1])

    def test_claimed_blocks_are_given_by_a_commit_and_kept_by_trim(self):
        store = new_store(blank(4))
        first = self.pointer(0, (0, 18), (1, 18), (2, 18))
        second = self.pointer(1, (0, 19), (1, 19), (3, 18))
        store.claim([first, second])
        store.trim([])
        self.assertEqual(store.free_counts(), [(0, 44), (1, 44), (2, 45), (3, 45)])
        self.assertEqual(store.commit([second]), [FLUSH])
        self.assertEqual(store.free_counts(), [(0, 45), (1, 45), (2, 46), (3, 45)])
        self.assertEqual(store.commit([]), [FLUSH])
        self.assertEqual(store.free_counts(), [(disk, 46) for disk in range(4)])


class Commit(unittest.TestCase):
    def test_the_requests_in_the_order_of_the_serials(self):
        images = blank(4)
        store = new_store(images)
        pointers = [store.put([k] * k) for k in range(6)]
        live = [pointers[4], pointers[1], pointers[4], pointers[2], pointers[1]]
        before = list(live)
        found = store.commit(live)
        expected = []
        for k in (1, 2, 4):
            expected.extend(writes_by_hand(images, pointers[k], [k] * k, 2))
        self.assertEqual(found, expected + [FLUSH])
        self.assertEqual(live, before)
        # What was committed is not written again.
        self.assertEqual(store.commit([pointers[1], pointers[2], pointers[4]]), [FLUSH])

    def test_after_trim_the_order_is_still_that_of_the_serials(self):
        images = blank(4)
        store = new_store(images)
        pointers = [store.put([k]) for k in range(4)]
        store.trim([pointers[3], pointers[0]])
        pointers.append(store.put([4]))
        self.assertEqual(pointers[4][:2], (5, 4))
        expected = [request for k in (0, 3, 4) for request in writes_by_hand(images, pointers[k], [k], 2)]
        self.assertEqual(store.commit(list(reversed(pointers))), expected + [FLUSH])

    def test_only_present_disks_are_written(self):
        images = blank(4)
        store = new_store(images, members=[0, 1, 2])
        pointer = store.put([1, 2])
        images[1] = None
        self.assertEqual([request[1:3] for request in store.commit([pointer])[:-1]], [(0, 18), (2, 18)])

    def test_without_new_live_blocks(self):
        store = new_store(blank(4))
        self.assertEqual(store.commit([]), [FLUSH])
        store.put([1])
        self.assertEqual(store.commit([]), [FLUSH])
        self.assertEqual(store.free_counts(), [(disk, 46) for disk in range(4)])

    def test_rows_that_are_not_live_are_free_after_the_commit_only(self):
        images = blank(3)
        store = new_store(images, members=[0, 1, 2], rows=21)
        first, second = store.put([1]), store.put([2])
        carry_out(images, store.commit([first, second]))
        third = store.put([3])
        self.assertEqual([place[1] for place in third[3]], [20, 20, 20])
        with self.assertRaises(NoSpace):
            store.put([4])
        store.trim([third])
        with self.assertRaises(NoSpace):
            store.put([4])
        carry_out(images, store.commit([second, third]))
        self.assertEqual(store.free_counts(), [(0, 1), (1, 1), (2, 1)])
        self.assertEqual(store.put([4])[3], ((0, 18), (1, 18), (2, 18)))
        self.assertEqual((store.get(second), store.get(third)), ([2], [3]))

    def test_answers_belong_to_the_caller(self):
        images = blank(4)
        store = new_store(images)
        pointer = store.put([7, 8])
        found = store.commit([pointer])
        carry_out(images, found)
        found[0][3].clear()
        found.clear()
        self.assertEqual(store.get(pointer), [7, 8])
        counts = store.free_counts()
        counts.clear()
        self.assertEqual(store.free_counts(), [(0, 45), (1, 45), (2, 45), (3, 46)])


class Trim(unittest.TestCase):
    def test_new_blocks_that_are_not_live_are_forgotten(self):
        images = blank(4)
        store = new_store(images)
        old = store.put([1])
        carry_out(images, store.commit([old]))
        _, second, _ = store.put([2]), store.put([3]), store.put([4])
        live = [second, second]
        self.assertIsNone(store.trim(live))
        self.assertEqual(live, [second, second])
        self.assertEqual(store.free_counts(), [(0, 44), (1, 45), (2, 44), (3, 45)])
        self.assertEqual([store.get(pointer) for pointer in (old, second)], [[1], [3]])
        # The rows of the forgotten blocks are taken again, and the serials go on.
        self.assertEqual(store.put([5])[1:], (4, 1, ((0, 19), (1, 19), (3, 18))))
        self.assertEqual(store.get(second), [3])

    def test_nothing_else_is_changed(self):
        images = blank(4)
        store = new_store(images)
        pointers = [store.put([k]) for k in range(3)]
        counts = store.free_counts()
        store.trim(pointers)
        self.assertEqual(store.free_counts(), counts)
        self.assertEqual([store.get(pointer) for pointer in pointers], [[0], [1], [2]])
        self.assertEqual(len(store.commit(pointers)), 10)


class Repairs(unittest.TestCase):
    def setUp(self):
        self.images = blank(6)
        self.store = new_store(self.images, data=2, parity=2, members=range(6))
        self.words = [some_words(seeded(52), length) for length in (3, 4, 5, 6)]
        self.pointers = [self.store.put(words) for words in self.words]
        carry_out(self.images, self.store.commit(self.pointers))

    def request(self, block, number):
        return writes_by_hand(blank(6), self.pointers[block], self.words[block], 2)[number]

    def spoil(self, block, number):
        disk, row = self.pointers[block][3][number]
        self.images[disk][row] = None

    def make_wrong(self, block, number):
        epoch, serial, _, places = self.pointers[block]
        disk, row = places[number]
        payload = self.images[disk][row][6:-2]
        payload[-1] = (payload[-1] + 5) % 65521
        self.images[disk][row] = seal(3, disk, row, (epoch, serial), payload)

    def test_bad_and_wrong_pieces_in_the_order_of_the_list(self):
        self.assertEqual(self.store.repairs(self.pointers), [])
        self.spoil(0, 3)
        self.spoil(0, 1)
        self.make_wrong(2, 0)
        self.spoil(3, 2)
        before = copy.deepcopy(self.images)
        live = [self.pointers[k] for k in (3, 2, 3, 1, 0, 2, 0)]
        given = list(live)
        found = self.store.repairs(live)
        self.assertEqual(found, [self.request(*at) for at in ((3, 2), (2, 0), (0, 1), (0, 3))])
        self.assertEqual((live, self.images), (given, before))
        self.assertEqual(self.store.repairs(self.pointers),
                         [self.request(*at) for at in ((0, 1), (0, 3), (2, 0), (3, 2))])
        self.assertEqual(self.store.repairs([self.pointers[1]]), [])
        carry_out(self.images, found)
        self.assertEqual(self.store.repairs(live), [])
        self.assertEqual([self.store.get(pointer) for pointer in self.pointers], self.words)

    def test_new_blocks_in_memory_are_skipped(self):
        new = self.store.put([1, 2, 3])
        self.assertEqual(self.store.repairs([new]), [])
        self.spoil(1, 0)
        self.assertEqual(self.store.repairs([new, self.pointers[1], new]), [self.request(1, 0)])
        self.store.commit([*self.pointers, new])
        with self.assertRaises(Damaged):
            self.store.repairs([new])

    def test_absent_disks(self):
        disk = self.pointers[0][3][0][0]
        self.images[disk] = None
        self.spoil(0, 2)
        self.assertEqual(self.store.repairs([self.pointers[0]]), [self.request(0, 2)])

    def test_blocks_that_cannot_be_repaired(self):
        for number in (0, 1, 2):
            self.spoil(1, number)
        self.spoil(0, 0)
        self.make_wrong(2, 0)
        self.make_wrong(2, 1)
        for live in ([self.pointers[1]], self.pointers, [self.pointers[0], self.pointers[1]], [self.pointers[2]]):
            counts = self.store.free_counts()
            with self.assertRaises(Damaged):
                self.store.repairs(live)
            self.assertEqual(self.store.free_counts(), counts)
        self.assertEqual(self.store.repairs([self.pointers[0], self.pointers[3]]), [self.request(0, 0)])


class Members(unittest.TestCase):
    def test_adding(self):
        store = new_store(blank(8), members=[1, 4, 6])
        held = store.members
        self.assertIsNone(store.add_member(5))
        self.assertIsNone(store.add_member(0))
        self.assertIsNone(store.add_member(7))
        self.assertEqual(store.members, [0, 1, 4, 5, 6, 7])
        self.assertEqual(held, [1, 4, 6])
        self.assertEqual(store.free_counts(), [(disk, 46) for disk in (0, 1, 4, 5, 6, 7)])
        for disk in (0, 1, 4, 5, 6, 7):
            with self.assertRaises(InvalidArgument):
                store.add_member(disk)
        self.assertEqual(store.members, [0, 1, 4, 5, 6, 7])

    def test_a_new_member_gets_blocks(self):
        store = new_store(blank(4), members=[0, 1, 3])
        pointer = store.put([1])
        store.add_member(2)
        self.assertEqual(store.free_counts(), [(0, 45), (1, 45), (2, 46), (3, 45)])
        self.assertEqual(store.put([1])[3], ((0, 19), (1, 19), (2, 18)))
        store.claim([(1, 1, 1, ((0, 30), (2, 30), (3, 30)))])
        with self.assertRaises(InvalidArgument):
            store.add_member(2)
        self.assertEqual(store.free_counts(), [(0, 43), (1, 44), (2, 44), (3, 44)])
        self.assertEqual(store.get(pointer), [1])

    def test_dropping(self):
        store = new_store(blank(8), members=[1, 4, 5, 6])
        held = store.members
        for disk in (0, 2, 3, 7, 8, -1):
            with self.assertRaises(InvalidArgument):
                store.drop_member(disk)
        self.assertIsNone(store.drop_member(4))
        self.assertEqual((store.members, held), ([1, 5, 6], [1, 4, 5, 6]))
        self.assertEqual(store.free_counts(), [(1, 46), (5, 46), (6, 46)])
        with self.assertRaises(InvalidArgument):
            store.drop_member(4)
        self.assertEqual(store.put([1])[3], ((1, 18), (5, 18), (6, 18)))
        store.trim([])
        store.drop_member(1)
        with self.assertRaises(NotEnoughDisks):
            store.put([1])
        with self.assertRaises(Damaged):
            store.claim([(1, 1, 1, ((1, 30), (5, 30), (6, 30)))])

    def test_a_member_with_used_rows_is_not_dropped(self):
        images = blank(4)
        store = new_store(images)
        pointer = store.put([1], avoid=[1])
        for _ in range(2):
            for disk in (0, 2, 3):
                with self.assertRaises(InvalidArgument):
                    store.drop_member(disk)
            self.assertEqual((store.members, store.free_counts()),
                             ([0, 1, 2, 3], [(0, 45), (1, 46), (2, 45), (3, 45)]))
            carry_out(images, store.commit([pointer]))
        store.drop_member(1)
        store.commit([])
        store.drop_member(0)
        self.assertEqual((store.members, store.free_counts()), ([2, 3], [(2, 46), (3, 46)]))

    def test_a_member_with_claimed_rows_is_not_dropped(self):
        store = new_store(blank(4))
        store.claim([(1, 1, 1, ((0, 30), (1, 30), (3, 30)))])
        for disk in (0, 1, 3):
            with self.assertRaises(InvalidArgument):
                store.drop_member(disk)
        store.drop_member(2)
        self.assertEqual(store.members, [0, 1, 3])

    def test_a_disk_that_is_added_again_has_all_rows_free(self):
        store = new_store(blank(4))
        pointer = store.put([1])
        store.commit([pointer])
        store.put([2])
        store.commit([])
        store.drop_member(0)
        store.add_member(0)
        self.assertEqual(store.free_counts(), [(disk, 46) for disk in range(4)])
        self.assertEqual(store.put([1])[3], ((0, 18), (1, 18), (2, 18)))


class LongSequences(unittest.TestCase):
    """Random calls, compared with a plain account after each one."""

    def start(self, chosen, data, parity, rows, disks):
        self.images = blank(disks, rows)
        self.options = {"data": data, "parity": parity, "rows": rows, "members": list(range(disks))}
        self.epoch = 0
        self.claimed = []
        self.mount()

    def mount(self):
        """Another store, which claims the blocks of the last commit."""
        self.epoch += 1
        self.store = Store(**self.options, epoch=self.epoch)
        self.store.look(self.images)
        blocks = dict(self.claimed)
        self.account = Account(**self.options, epoch=self.epoch)
        self.account.blocks = blocks
        self.store.claim(list(blocks) * 2)

    def put(self, chosen):
        words = some_words(chosen, chosen.choice([0, 1, 5, 20, 1000 * self.options["data"] + 1]))
        avoid = chosen.choice([(), (), (), (0,), [1, 2], list(range(8))])
        expected = self.account.put(self.images, words, avoid)
        if inspect.isclass(expected):
            with self.assertRaises(expected):
                self.store.put(words, avoid=avoid)
        else:
            self.assertEqual(self.store.put(words, avoid=avoid), expected)

    def some_live(self, chosen):
        live = [pointer for pointer in self.account.blocks if chosen.randrange(4)]
        live.extend([pointer for pointer in live if chosen.randrange(3) == 0])
        chosen.shuffle(live)
        return live

    def commit(self, chosen):
        live = self.some_live(chosen)
        requests = self.store.commit(live)
        self.assertEqual(requests, self.account.commit(self.images, live))
        carry_out(self.images, requests)
        self.claimed = list(self.account.blocks.items())
        if chosen.randrange(3) == 0:
            self.mount()

    def trim(self, chosen):
        live = self.some_live(chosen)
        self.store.trim(live)
        self.account.trim(live)

    def claim(self, chosen):
        """A block of another store, or one that is refused."""
        members = self.account.members
        disks = chosen.sample(members, min(len(members), self.account.width))
        places = tuple((disk, chosen.randrange(17, self.account.rows + 1)) for disk in sorted(disks))
        pointer = (60000, chosen.randrange(10 ** 6), 0, places)
        if all(row in self.account.free_rows(disk) for disk, row in places):
            self.store.claim([pointer])
            self.account.blocks[pointer] = []
            for disk, row in places:
                self.images[disk][row] = seal(3, disk, row, pointer[:2], [])
        else:
            with self.assertRaises(Damaged):
                self.store.claim([pointer])

    def check_all(self, chosen):
        self.assertEqual(self.store.free_counts(), self.account.free_counts())
        for pointer, words in self.account.blocks.items():
            if chosen.randrange(4) == 0:
                self.assertEqual(self.store.get(pointer), words)

    def test_long_sequences(self):
        chosen = seeded(53)
        for data, parity, rows, disks in ((1, 1, 24, 3), (2, 1, 64, 4), (2, 2, 28, 5), (3, 0, 22, 3), (1, 2, 64, 8)):
            self.start(chosen, data, parity, rows, disks)
            for _ in range(300):
                call = chosen.choice([self.put] * 8 + [self.commit, self.trim, self.claim])
                call(chosen)
                self.check_all(chosen)
            self.assertEqual(self.store.repairs(list(self.account.blocks)), [])


if __name__ == "__main__":
    unittest.main()
