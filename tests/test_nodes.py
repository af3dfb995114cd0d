import unittest

from helpers import blank, seeded
from paritypool.nodes import child_entry, child_of, divided, form_of, make_entry, pointer_from, pointer_words
from paritypool.nodes import put_nodes, read_node, total_words
from paritypool.packing import pack
from paritypool.store import Store


class Pointers(unittest.TestCase):
    def test_words_and_back(self):
        for places in (((0, 18),), ((1, 18), (7, 3999)), tuple((disk, 20 + disk) for disk in range(8))):
            for epoch, serial, length in ((1, 0, 0), (65520, 65521 * 65521 - 1, 8000), (9, 65521, 1)):
                pointer = (epoch, serial, length, places)
                words = pointer_words(pointer)
                self.assertEqual(len(words), 4 + 2 * len(places))
                self.assertTrue(all(0 <= word <= 65520 for word in words))
                self.assertEqual(pointer_from(words), pointer)
                entry = child_entry(("a", 5), pointer)
                self.assertEqual(entry[0], ("a", 5))
                self.assertEqual(child_of(entry), pointer)


class Division(unittest.TestCase):
    def test_runs_fit_and_none_is_small(self):
        for seed in range(60):
            chosen = seeded(seed)
            most = chosen.choice([1, 20, 150])
            entries = [make_entry(("k" * chosen.randrange(61), number), [1] * chosen.randrange(most))
                       for number in range(chosen.randrange(1, 80))]
            runs = divided(entries)
            self.assertEqual([entry for run in runs for entry in run], entries)
            for run in runs:
                self.assertLess(total_words(run), 1000)
                if len(runs) > 1:
                    self.assertGreaterEqual(total_words(run), 250)

    def test_what_fits_stays_together(self):
        entry = make_entry(("", 0), [])
        self.assertEqual(len(entry[1]), len(pack(("", 0))) + 2)
        rest = 999 - len(entry[1]) - len(make_entry(("", 1), [])[1])
        self.assertEqual(len(divided([entry, make_entry(("", 1), [7] * rest)])), 1)
        self.assertEqual(len(divided([entry, make_entry(("", 1), [7] * (rest + 1))])), 2)
        self.assertEqual(divided([]), [])

    def test_an_entry_that_fits_nowhere_stands_alone(self):
        entries = [make_entry(("", 0), []), make_entry(("", 1), [7] * 3000), make_entry(("", 2), [])]
        self.assertEqual([entry for run in divided(entries) for entry in run], entries)


class Nodes(unittest.TestCase):
    def test_nodes_are_read_as_they_were_put(self):
        store = Store(data=1, parity=0, rows=200, members=[0], epoch=1)
        store.look(blank(1, 200))
        entries = [make_entry(("a" * number, number - 1), pack([number] * 90)) for number in range(40)]
        above = put_nodes(store, 3, entries, ())
        self.assertGreater(len(above), 3)
        found = []
        for entry in above:
            level, inner = read_node(store, child_of(entry))
            self.assertEqual(level, 3)
            self.assertEqual(inner[0][0], entry[0])
            found.extend(inner)
        self.assertEqual(found, entries)
        self.assertEqual([form_of(entry) for entry in found], [pack([number] * 90) for number in range(40)])


if __name__ == "__main__":
    unittest.main()
