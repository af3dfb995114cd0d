import unittest

from helpers import seeded
from paritypool.errors import InvalidArgument, NoSpace
from paritypool.space import Space


class Model:
    """A plain list of row states, straight from point 22."""

    def __init__(self, rows, first):
        self.first = first
        self.states = ["none"] * first + ["free"] * (rows - first)

    def rows_in(self, *states):
        return [row for row, state in enumerate(self.states) if state in states]

    def take(self):
        free = self.rows_in("free")
        if not free:
            raise NoSpace("")
        self.states[free[0]] = "new"
        return free[0]

    def state(self, row):
        return self.states[row] if 0 <= row < len(self.states) else "none"

    def claim(self, row):
        if self.state(row) != "free":
            raise InvalidArgument("")
        self.states[row] = "old"

    def give(self, row):
        if self.state(row) not in ("new", "old"):
            raise InvalidArgument("")
        self.states[row] = "free" if self.states[row] == "new" else "waiting"

    def settle(self):
        becomes = {"waiting": "free", "new": "old"}
        self.states = [becomes.get(state, state) for state in self.states]


def outcome(call, *arguments):
    """What the call returned, or the class of the error that it raised."""
    try:
        return call(*arguments)
    except (InvalidArgument, NoSpace) as error:
        return type(error)


class Spaces(unittest.TestCase):
    def check_same(self, space, model):
        self.assertEqual(space.free_count(), len(model.rows_in("free")))
        self.assertEqual(space.used_rows(), model.rows_in("new", "old"))
        self.assertEqual(space.waiting_rows(), model.rows_in("waiting"))

    def do_both(self, space, model, name, *arguments):
        self.assertEqual(outcome(getattr(space, name), *arguments), outcome(getattr(model, name), *arguments))
        self.check_same(space, model)

    def random_calls(self, chosen, pairs, rows, many):
        for _ in range(many):
            space, model = chosen.choice(pairs)
            name = chosen.choice(["take", "take", "take", "claim", "claim", "give", "give", "give", "settle"])
            if name in ("take", "settle"):
                if name == "settle" and chosen.randrange(4):
                    continue
                self.do_both(space, model, name)
            else:
                self.do_both(space, model, name, chosen.randrange(-2, rows + 3))
            for other_space, other_model in pairs:
                self.check_same(other_space, other_model)

    def test_long_sequences(self):
        chosen = seeded(5)
        for rows, first in ((9, 0), (12, 4), (30, 18), (64, 18), (5, 5), (1, 0), (19, 18)):
            self.random_calls(chosen, [(Space(rows, first), Model(rows, first))], rows, 2000)

    def test_two_spaces_beside_each_other(self):
        chosen = seeded(6)
        pairs = [(Space(14, 3), Model(14, 3)), (Space(14, 3), Model(14, 3)), (Space(10, 0), Model(10, 0))]
        self.random_calls(chosen, pairs, 14, 3000)

    def test_all_rows_are_free_at_first(self):
        space = Space(64, 18)
        self.assertEqual((space.free_count(), space.used_rows(), space.waiting_rows()), (46, [], []))
        self.assertEqual([space.take() for _ in range(46)], list(range(18, 64)))
        self.assertEqual(space.free_count(), 0)

    def test_no_free_row(self):
        for rows, first in ((18, 18), (0, 0), (3, 3)):
            space = Space(rows, first)
            self.check_same(space, Model(rows, first))
            with self.assertRaises(NoSpace):
                space.take()
            for row in range(-1, rows + 2):
                with self.assertRaises(InvalidArgument):
                    space.claim(row)
                with self.assertRaises(InvalidArgument):
                    space.give(row)
            space.settle()
            self.check_same(space, Model(rows, first))

    def test_waiting_rows_are_not_taken_before_they_are_settled(self):
        space = Space(20, 18)
        self.assertEqual([space.take(), space.take()], [18, 19])
        self.assertIsNone(space.settle())
        self.assertIsNone(space.give(18))
        self.assertEqual((space.free_count(), space.used_rows(), space.waiting_rows()), (0, [19], [18]))
        with self.assertRaises(NoSpace):
            space.take()
        with self.assertRaises(InvalidArgument):
            space.claim(18)
        space.settle()
        self.assertEqual((space.free_count(), space.used_rows(), space.waiting_rows()), (1, [19], []))
        self.assertEqual(space.take(), 18)

    def test_new_rows_are_free_at_once_when_they_are_given(self):
        space = Space(21, 18)
        self.assertEqual([space.take(), space.take()], [18, 19])
        space.give(18)
        self.assertEqual((space.free_count(), space.used_rows(), space.waiting_rows()), (2, [19], []))
        self.assertEqual([space.take(), space.take()], [18, 20])

    def test_a_claimed_row_is_old(self):
        space = Space(21, 18)
        self.assertIsNone(space.claim(19))
        self.assertEqual([space.take(), space.take()], [18, 20])
        space.give(19)
        self.assertEqual((space.used_rows(), space.waiting_rows()), ([18, 20], [19]))

    def test_rows_in_each_state(self):
        space = Space(22, 18)
        space.claim(18)
        space.claim(19)
        space.give(19)
        self.assertEqual(space.take(), 20)
        # 18 is old, 19 waiting, 20 new, 21 free; the others do not exist.
        for row in (18, 19, 20, -1, 0, 17, 22, 23, -18, -1000, 10 ** 9):
            with self.assertRaises(InvalidArgument):
                space.claim(row)
        for row in (19, 21, -1, 0, 17, 22, 23, -18, -1000, 10 ** 9):
            with self.assertRaises(InvalidArgument):
                space.give(row)
        self.assertEqual((space.free_count(), space.used_rows(), space.waiting_rows()), (1, [18, 20], [19]))
        space.settle()
        self.assertEqual((space.free_count(), space.used_rows(), space.waiting_rows()), (2, [18, 20], []))
        space.give(20)
        self.assertEqual(space.waiting_rows(), [20])

    def test_lists_belong_to_the_caller(self):
        space = Space(22, 18)
        space.take()
        space.claim(20)
        space.claim(21)
        space.give(21)
        used, waiting = space.used_rows(), space.waiting_rows()
        used.append(19)
        used[0] = 100
        waiting.clear()
        self.assertEqual((space.free_count(), space.used_rows(), space.waiting_rows()), (1, [18, 20], [21]))
        self.assertEqual(space.take(), 19)


if __name__ == "__main__":
    unittest.main()
