import unittest

from helpers import blank, carry_out, same_kinds, seeded
from models import Counting
from paritypool.btree import blocks, change_pairs, differences, evacuate, find, insert, remove, scan
from paritypool.errors import Damaged, InvalidArgument, NoSpace, NotEnoughDisks
from paritypool.store import Store

LOWEST = ("", -1)
HIGHEST = ("~" * 100, 0)


def new_store(*, data=1, parity=0, disks=1, rows=4000, epoch=1):
    store = Counting(data=data, parity=parity, rows=rows, members=list(range(disks)), epoch=epoch)
    store.look(blank(disks, rows))
    return store


def some_key(chosen):
    length = chosen.choice([0, 1, 2, 5, 59, 60])
    text = "".join(chosen.choice(" ab/0~") for _ in range(length))
    return text, chosen.choice([-1, 0, 1, 60000, chosen.randrange(-1, 60001)])


def some_value(chosen):
    return chosen.choice([
        True, False, 0, 1, -1, 60000, 60001, 10 ** 140, "", "a", "x" * 148, [], (), [1], (1,), [True], [None, (0, "b")],
        [7] * 147, [65520] * 16, tuple([5] * 90), [chosen.randrange(60001) for _ in range(chosen.randrange(147))],
        (1, chosen.randrange(10 ** 9), 3, ((0, 18), (1, 19))),
    ])


def pairs_of(table):
    return [(key, table[key]) for key in sorted(table)]


def build(store, table, root=None):
    for key, value in table.items():
        root = insert(store, root, key, value)
    return root


class Compared(unittest.TestCase):
    """Maps compared with plain dicts."""

    def check(self, store, root, table, keys):
        self.assertTrue(same_kinds(scan(store, root, LOWEST, HIGHEST), pairs_of(table)))
        for key in keys:
            self.assertTrue(same_kinds(find(store, root, key), table.get(key)), key)

    def run_changes(self, store, root, table, changes, known=()):
        """Make the changes, each a key and a value or None, and check after each one."""
        keys = list(dict.fromkeys([*known, *table]))
        for key, value in changes:
            if key in keys:
                keys.remove(key)
            keys.append(key)
            if value is None:
                new = remove(store, root, key)
                if key not in table:
                    self.assertIs(new, root)
                table.pop(key, None)
            else:
                new = insert(store, root, key, value)
                table[key] = value
            root = new
            # Every key is asked for, but of very many only some each time.
            some = 1 if len(keys) <= 70 else 10
            self.check(store, root, table, keys[-1:] + keys[len(keys) * 7 % some::some])
        self.check(store, root, table, keys)
        return root

    def test_drawn_changes(self):
        for seed, many in enumerate([3, 10, 10, 30, 30, 60, 150]):
            chosen = seeded(seed)
            store, table = new_store(rows=4000), {}
            pool = [some_key(chosen) for _ in range(many)]
            changes = [(chosen.choice(pool), some_value(chosen) if chosen.random() < 0.65 else None)
                       for _ in range(200)]
            root = self.run_changes(store, None, table, changes)
            root = self.run_changes(store, root, table, [(key, None) for key in list(table)])
            self.assertIsNone(root)

    def test_keys_ascending_and_descending(self):
        keys = sorted([("k" * many, number) for many in range(12) for number in (-1, 0, 9, 60000)])
        for first in (keys, keys[::-1]):
            for then in (keys, keys[::-1]):
                store = new_store()
                changes = [(key, [1] * 100) for key in first]
                root = self.run_changes(store, None, {}, changes)
                store.trim(blocks(store, root))
                table = dict(changes)
                self.assertIsNone(self.run_changes(store, root, table, [(key, None) for key in then]))

    def test_the_same_key_again(self):
        store = new_store()
        values = [1, True, [1], (1,), "1", [True], -1, 1]
        root = self.run_changes(store, None, {}, [(("a", 0), value) for value in values])
        self.assertEqual(len(scan(store, root, LOWEST, HIGHEST)), 1)

    def test_texts_that_begin_with_one_another(self):
        store = new_store()
        keys = [("a", 60000), ("", 0), ("ab", -1), ("a", -1), ("a-", 3), ("", -1), ("a/b", 0), ("b", 0), ("a", 0)]
        root = self.run_changes(store, None, {}, [(key, key[0] + "!") for key in keys])
        self.assertEqual([key for key, _ in scan(store, root, LOWEST, HIGHEST)], sorted(keys))

    def test_many_values_of_the_greatest_size(self):
        store, table = new_store(), {}
        for number in range(120):
            table[("x" * 57 + str(100 + number * 37 % 120), 60000)] = [number] * 147
        root = build(store, table)
        self.check(store, root, table, list(table))
        self.assertTrue(all(pointer[2] <= 1000 for pointer in blocks(store, root)))

    def test_keys_and_values_somewhat_beyond_the_bounds(self):
        table = {("x" * 80 + str(number), number * 5000 - 3): [number] * 190 for number in range(40)}
        store = new_store()
        self.check(store, build(store, table), table, list(table))

    def test_an_empty_map(self):
        store = new_store()
        self.assertIsNone(find(store, None, ("a", 0)))
        self.assertEqual(scan(store, None, LOWEST, HIGHEST), [])
        self.assertIsNone(remove(store, None, ("a", 0)))
        self.assertEqual(blocks(store, None), [])
        self.assertEqual(differences(store, None, None), [])
        self.assertIsNone(evacuate(store, None, [0], {}))
        self.assertEqual(store.puts, 0)
        root = insert(store, None, ("a", 0), 5)
        self.assertIsNone(remove(store, root, ("a", 0)))

    def test_removing_a_key_that_is_not_there_makes_no_block(self):
        store = new_store()
        table = {(chr(97 + number), number): [number] * 120 for number in range(26)}
        root = build(store, table)
        before = store.puts
        for key in [("", -1), ("a", -1), ("a", 1), ("m", 11), ("m", 13), ("zz", 0), ("z", 60000)]:
            self.assertIs(remove(store, root, key), root)
        self.assertEqual(store.puts, before)


class Sharing(unittest.TestCase):
    def test_old_maps_stay_what_they_were(self):
        chosen = seeded(77)
        store, roots, tables = new_store(rows=4000), [None], [{}]
        pool = [some_key(chosen) for _ in range(40)]
        for _ in range(150):
            at = chosen.randrange(len(roots))
            key, table = chosen.choice(pool), dict(tables[at])
            if chosen.random() < 0.7:
                table[key] = some_value(chosen)
                roots.append(insert(store, roots[at], key, table[key]))
            else:
                table.pop(key, None)
                roots.append(remove(store, roots[at], key))
            tables.append(table)
        for root, table in zip(roots, tables):
            self.assertTrue(same_kinds(scan(store, root, LOWEST, HIGHEST), pairs_of(table)))

    def test_a_change_shares_the_other_blocks(self):
        store = new_store()
        root = build(store, {("k", number): [number] * 100 for number in range(60)})
        new = insert(store, root, ("k", 30), "other")
        before, after = blocks(store, root), blocks(store, new)
        self.assertGreater(len(before), 5)
        self.assertLessEqual(len([pointer for pointer in after if pointer not in before]), 3)

    def test_at_most_thirty_blocks_for_a_change_with_a_hundred_pairs(self):
        for seed in range(10):
            chosen = seeded(seed)
            store = new_store(data=1, parity=7 if seed % 2 else 0, disks=8 if seed % 2 else 1)
            table, root = {}, None
            big = seed < 6
            for step in range(400):
                grows = step < 100 or (len(table) < 100 and chosen.random() < 0.5)
                if grows:
                    key = ("x" * (56 if big else chosen.randrange(50)) + str(chosen.randrange(1000)), 60000)
                    table[key] = [60000] * (147 if big else chosen.randrange(148))
                else:
                    key = chosen.choice(sorted(table))
                    del table[key]
                before = store.puts
                root = insert(store, root, key, table[key]) if grows else remove(store, root, key)
                self.assertLessEqual(store.puts - before, 12)
                if step % 20 == 0:
                    self.assertEqual(scan(store, root, LOWEST, HIGHEST), pairs_of(table))
                    store.trim(blocks(store, root))

    def test_lists_of_answers_and_arguments(self):
        store, value = new_store(), [1, [2, 3], ("a", [4])]
        root = insert(store, None, ("a", 0), value)
        value[1].append(9)
        value[2][1].clear()
        self.assertEqual(find(store, root, ("a", 0)), [1, [2, 3], ("a", [4])])
        find(store, root, ("a", 0))[1].clear()
        scan(store, root, LOWEST, HIGHEST)[0][1].clear()
        other = insert(store, root, ("a", 0), 5)
        differences(store, root, other)[0][1].clear()
        blocks(store, root).clear()
        self.assertEqual(find(store, root, ("a", 0)), [1, [2, 3], ("a", [4])])
        self.assertEqual(scan(store, root, LOWEST, HIGHEST), [(("a", 0), [1, [2, 3], ("a", [4])])])
        self.assertEqual(differences(store, root, other), [(("a", 0), [1, [2, 3], ("a", [4])], 5)])
        self.assertEqual(blocks(store, root), [root])


class Fill(unittest.TestCase):
    """Blocks stay well filled, so that maps stay flat whatever was removed."""

    def check(self, store, root, words):
        all_blocks = blocks(store, root)
        self.assertLessEqual(len(all_blocks), 2 + words // 200)
        for pointer in all_blocks:
            if pointer != root:
                self.assertGreaterEqual(pointer[2], 200)

    def test_removing_pairs_in_any_order(self):
        for seed in range(6):
            chosen = seeded(seed)
            store = new_store()
            keys = [("k" * chosen.randrange(40), number) for number in range(300)]
            size = chosen.choice([1, 20, 140])
            root = build(store, {key: [7] * size for key in keys})
            self.check(store, root, 300 * (size + 60))
            order = chosen.choice([sorted(keys), sorted(keys)[::-1], chosen.sample(keys, 300), keys])
            for many, key in enumerate(order):
                root = remove(store, root, key)
                if root is not None:
                    self.check(store, root, (299 - many) * (size + 60))
            self.assertIsNone(root)

    def test_many_changes_at_once(self):
        for seed in range(20):
            chosen = seeded(seed)
            store, table = new_store(), {("k", number): [number] * 90 for number in range(150)}
            root = change_pairs(store, None, table)
            for _ in range(8):
                changes = {("k", number): chosen.choice([None, None, 5, [1] * 140])
                           for number in chosen.sample(range(200), chosen.choice([1, 20, 150]))}
                table.update(changes)
                table = {key: value for key, value in table.items() if value is not None}
                before = store.puts
                root = change_pairs(store, root, changes)
                self.assertEqual(scan(store, root, LOWEST, HIGHEST), pairs_of(table))
                if root is not None:
                    self.assertLessEqual(store.puts - before, len(blocks(store, root)) + 3)
                    self.check(store, root, len(table) * 160)
            root = change_pairs(store, root, {key: None for key in table})
            self.assertIsNone(root)

    def test_new_blocks_avoid_disks(self):
        store = new_store(disks=4)
        root = change_pairs(store, None, {("k", number): [number] * 90 for number in range(60)}, avoid=[0, 2])
        self.assertEqual({disk for pointer in blocks(store, root) for disk, _ in pointer[3]}, {1, 3})
        root = change_pairs(store, root, {("k", 30): None, ("k", 31): 5}, avoid=(0, 2))
        self.assertEqual({disk for pointer in blocks(store, root) for disk, _ in pointer[3]}, {1, 3})


class Scan(unittest.TestCase):
    def test_all_bounds(self):
        store = new_store()
        keys = [(text, number) for text in ("", "a", "ab", "b") for number in (-1, 0, 1, 7)]
        table = {key: [key[1]] * 110 for key in keys}
        root = build(store, table)
        bounds = keys + [("", 2), ("a", 3), ("aa", 0), ("ab", 60000), ("b", 8), ("c", -1), ("~", 0)]
        for low in bounds:
            for high in bounds:
                expected = [(key, table[key]) for key in sorted(table) if low <= key < high]
                self.assertEqual(scan(store, root, low, high), expected, (low, high))


class Differences(unittest.TestCase):
    def check(self, store, first, second, old, new):
        expected = [(key, old.get(key), new.get(key)) for key in sorted({*old, *new})
                    if not same_kinds(old.get(key), new.get(key))]
        self.assertTrue(same_kinds(differences(store, first, second), expected))
        back = [(key, after, before) for key, before, after in expected]
        self.assertTrue(same_kinds(differences(store, second, first), back))

    def test_drawn_maps(self):
        for seed in range(15):
            chosen = seeded(seed)
            store = new_store()
            pool = [some_key(chosen) for _ in range(60)]
            common = {chosen.choice(pool): some_value(chosen) for _ in range(chosen.choice([0, 5, 60]))}
            root = build(store, common)
            maps = [(None, {}), (root, common)]
            for _ in range(3):
                base_root, base = chosen.choice(maps)
                table = dict(base)
                for _ in range(chosen.choice([1, 3, 30])):
                    key = chosen.choice(pool)
                    if chosen.random() < 0.6:
                        table[key] = some_value(chosen)
                        base_root = insert(store, base_root, key, table[key])
                    else:
                        table.pop(key, None)
                        base_root = remove(store, base_root, key)
                maps.append((base_root, table))
            maps.append((build(store, dict(reversed(list(maps[-1][1].items())))), maps[-1][1]))
            for first, old in maps:
                for second, new in maps:
                    self.check(store, first, second, old, new)

    def test_values_that_python_takes_as_equal(self):
        store = new_store()
        old = {("a", 0): 1, ("b", 0): [1, 2], ("c", 0): (True,), ("d", 0): 0, ("e", 0): [[]]}
        new = {("a", 0): True, ("b", 0): (1, 2), ("c", 0): (1,), ("d", 0): False, ("e", 0): [()]}
        self.check(store, build(store, old), build(store, new), old, new)
        self.assertEqual(len(differences(store, build(store, old), build(store, new))), 5)

    def test_shared_blocks_are_not_read(self):
        store = new_store()
        root = build(store, {("k", number): [number] * 100 for number in range(80)})
        new = insert(store, root, ("k", 40), 1)
        before = store.gets
        self.assertEqual(differences(store, root, new), [(("k", 40), [40] * 100, 1)])
        self.assertLess(store.gets - before, 10)
        before = store.gets
        self.assertEqual(differences(store, root, root), [])
        self.assertEqual(store.gets, before)


class Blocks(unittest.TestCase):
    def test_one_block(self):
        store = new_store()
        root = insert(store, None, ("a", 0), 5)
        self.assertEqual(blocks(store, root), [root])

    def test_pointers_in_values_are_no_blocks_of_the_map(self):
        store = new_store()
        inner = insert(store, None, ("a", 0), 5)
        root = insert(store, None, ("a", 0), inner)
        self.assertEqual(blocks(store, root), [root])
        self.assertEqual(find(store, root, ("a", 0)), inner)

    def test_the_blocks_are_those_that_scan_reads(self):
        read = []

        class Recording(Counting):
            def get(self, pointer):
                read.append(pointer)
                return Counting.get(self, pointer)

        for many in (1, 9, 40, 200):
            store = Recording(data=1, parity=0, rows=4000, members=[0], epoch=1)
            store.look(blank(1, 4000))
            root = build(store, {("k", number): [number] * 90 for number in range(many)})
            read.clear()
            scan(store, root, LOWEST, HIGHEST)
            expected = sorted(read)
            self.assertEqual(sorted(blocks(store, root)), expected)
            self.assertEqual(len(set(expected)), len(expected))

    def test_a_new_store_reads_everything_from_the_images(self):
        for data, parity in ((1, 0), (1, 2), (2, 1), (3, 2)):
            width = data + parity
            images = blank(width, 400)
            store = Store(data=data, parity=parity, rows=400, members=list(range(width)), epoch=1)
            store.look(images)
            table = {("k" * (number % 5), number): [number] * 100 for number in range(70)}
            root = build(store, table)
            live = blocks(store, root)
            carry_out(images, store.commit(live))
            self.assertEqual(sum(free for _, free in store.free_counts()), width * (382 - len(live)))
            again = Store(data=data, parity=parity, rows=400, members=list(range(width)), epoch=2)
            again.look(images)
            again.claim(live)
            for first in range(width):
                shown = [None if (disk - first) % width < parity else rows for disk, rows in enumerate(images)]
                again.look(shown)
                self.assertEqual(scan(again, root, LOWEST, HIGHEST), pairs_of(table))
                self.assertEqual(sorted(blocks(again, root)), sorted(live))
                again.look([None if (disk - first) % width <= parity else rows for disk, rows in enumerate(images)])
                self.check_damaged(again, root)

    def check_damaged(self, store, root):
        for action in (lambda: find(store, root, ("k", 1)), lambda: insert(store, root, ("k", 1), 1),
                       lambda: remove(store, root, ("k", 1)), lambda: scan(store, root, LOWEST, HIGHEST),
                       lambda: blocks(store, root), lambda: differences(store, root, None),
                       lambda: differences(store, None, root), lambda: evacuate(store, root, [0], {})):
            with self.assertRaises(Damaged):
                action()


class PutErrors(unittest.TestCase):
    def test_no_space(self):
        store = new_store(rows=64)
        root, table = None, {}
        with self.assertRaises(NoSpace):
            for number in range(100):
                new = insert(store, root, ("a", number), [number] * 140)
                root, table[("a", number)] = new, [number] * 140
        self.assertEqual(scan(store, root, LOWEST, HIGHEST), pairs_of(table))

    def test_a_value_that_fits_in_no_block(self):
        store = new_store()
        root = insert(store, None, ("a", 0), 1)
        with self.assertRaises(InvalidArgument):
            insert(store, root, ("b", 0), [1] * 1200)


class Evacuate(unittest.TestCase):
    def touched(self, store, root, disks):
        return [pointer for pointer in blocks(store, root) if any(disk in disks for disk, _ in pointer[3])]

    def below(self, store, pointer):
        """All blocks at and below a block."""
        return blocks(store, pointer)

    def check(self, store, roots, disks):
        tables = [scan(store, root, LOWEST, HIGHEST) for root in roots]
        must_move = {pointer for root in roots for pointer in blocks(store, root)
                     if self.touched(store, pointer, disks)}
        before = {pointer for root in roots for pointer in blocks(store, root)}
        moved = {}
        new = [evacuate(store, root, disks, moved) for root in roots]
        self.assertEqual(set(moved), must_move)
        for root, old_root, table in zip(new, roots, tables):
            self.assertEqual(scan(store, root, LOWEST, HIGHEST), table)
            self.assertEqual(scan(store, old_root, LOWEST, HIGHEST), table)
            self.assertEqual(self.touched(store, root, disks), [])
            successors = [moved.get(pointer, pointer) for pointer in blocks(store, old_root)]
            self.assertEqual(sorted(blocks(store, root)), sorted(successors))
        made = [pointer for pointer in moved.values()]
        self.assertEqual(len(set(made)), len(made))
        self.assertFalse(set(made) & before)
        self.assertEqual([evacuate(store, root, disks, moved) for root in roots], new)
        return moved

    def test_maps_with_common_blocks(self):
        for seed in range(6):
            chosen = seeded(seed)
            store = Counting(data=2, parity=1, rows=2000, members=list(range(7)), epoch=1)
            store.look(blank(7, 2000))
            root = build(store, {("k", number): [number] * 100 for number in range(60)})
            roots = [root, insert(store, root, ("k", 3), 5), remove(store, root, ("k", 50)), root, None]
            disks = chosen.sample(range(7), chosen.choice([0, 1, 2, 4]))
            before = store.puts
            moved = self.check(store, roots, disks)
            self.assertEqual(store.puts - before, len(moved))
            if not disks:
                self.assertEqual(moved, {})

    def test_committed_blocks_and_long_stamps(self):
        images = blank(4, 1000)
        store = Store(data=1, parity=1, rows=1000, members=[0, 1, 2, 3], epoch=1)
        store.look(images)
        root = build(store, {("", number): 1 for number in range(400)})
        carry_out(images, store.commit(blocks(store, root)))
        late = Store(data=1, parity=1, rows=1000, members=[0, 1, 2, 3], epoch=65520)
        late.look(images)
        late.claim(blocks(store, root))
        late._made = 65521 * 65521 - 50
        moved = self.check(late, [root], [1, 3])
        self.assertGreater(len(moved), 3)

    def test_blocks_below_are_not_read_without_need(self):
        store = new_store(disks=2)
        store.look(blank(2, 4000))
        root = change_pairs(store, None, {("k", number): [number] * 100 for number in range(80)}, avoid=[1])
        leaves = [pointer for pointer in blocks(store, root) if store.get(pointer)[0] == 0]
        self.assertGreater(len(leaves), 8)
        store.gets = 0
        self.assertEqual(len(blocks(store, root)), len(leaves) + store.gets)
        store.gets = 0
        self.assertEqual(evacuate(store, root, [1], {}), root)
        self.assertLess(store.gets, len(leaves))

    def test_too_few_members_left(self):
        store = Store(data=2, parity=1, rows=100, members=[0, 1, 2, 3], epoch=1)
        store.look(blank(4, 100))
        root = insert(store, None, ("a", 0), 1)
        self.assertEqual(evacuate(store, root, [3], {}), root)
        with self.assertRaises(NotEnoughDisks):
            evacuate(store, root, [0, 3], {})
        self.assertEqual(find(store, root, ("a", 0)), 1)

    def test_an_entry_of_the_dict_counts(self):
        store = new_store(disks=3)
        root = insert(store, None, ("a", 0), 1)
        other = insert(store, None, ("a", 0), 1)
        moved = {root: other}
        self.assertEqual(evacuate(store, root, [root[3][0][0]], moved), other)
        self.assertEqual(moved, {root: other})


if __name__ == "__main__":
    unittest.main()
