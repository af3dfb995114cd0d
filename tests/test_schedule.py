import copy
import unittest

from helpers import blank, carry_out, seeded
from paritypool.schedule import schedule

FLUSH = ("flush",)


def write(disk, row, *words):
    return ("write", disk, row, list(words))


def parts_between_flushes(requests):
    """The lists of the requests before the first flush, between two flushes, and after the last one."""
    parts = [[]]
    for request in requests:
        if request == FLUSH:
            parts.append([])
        else:
            parts[-1].append(request)
    return parts


def scheduled_by_hand(requests):
    """Straight from point 30, with loops over loops."""
    found = []
    parts = parts_between_flushes(requests)
    for number, part in enumerate(parts):
        kept = [request for at, request in enumerate(part)
                if not any(later[1:3] == request[1:3] for later in part[at + 1:])]
        found.extend(sorted(kept, key=lambda request: request[1:3]))
        if number < len(parts) - 1 and not (found and found[-1] == FLUSH):
            found.append(FLUSH)
    return found


class Schedule(unittest.TestCase):
    def check(self, requests, expected=None):
        before = copy.deepcopy(requests)
        found = schedule(requests)
        self.assertIs(type(found), list)
        self.assertEqual(requests, before)
        self.assertEqual(found, scheduled_by_hand(requests))
        if expected is not None:
            self.assertEqual(found, expected)
        self.assertEqual(schedule(found), found)
        self.check_flushes(requests, found)

    def check_flushes(self, requests, found):
        """Carried out up to each flush, both lists leave the same."""
        self.assertEqual(self.states(requests), self.states(found))

    def states(self, requests):
        images, states = blank(3, 6), []
        for request in list(requests) + [FLUSH]:
            carry_out(images, [request])
            if request == FLUSH:
                states.append(copy.deepcopy(images))
        # A flush behind a flush leaves what the first one left.
        return [state for at, state in enumerate(states) if at == 0 or state != states[at - 1]]

    def test_some_lists(self):
        self.check([], [])
        self.check([FLUSH], [FLUSH])
        self.check([FLUSH] * 4, [FLUSH])
        self.check([write(1, 2, 5)], [write(1, 2, 5)])
        self.check([write(1, 2, 5), write(1, 2, 6)], [write(1, 2, 6)])
        self.check([write(1, 2, 6), write(1, 1, 5), write(0, 5, 4)], [write(0, 5, 4), write(1, 1, 5), write(1, 2, 6)])
        self.check([write(1, 2, 6), FLUSH, write(1, 2, 5)], [write(1, 2, 6), FLUSH, write(1, 2, 5)])

    def test_flushes_at_the_ends_and_in_a_row(self):
        self.check([FLUSH, write(0, 0, 1)], [FLUSH, write(0, 0, 1)])
        self.check([write(0, 0, 1), FLUSH], [write(0, 0, 1), FLUSH])
        self.check([FLUSH, FLUSH, write(0, 0, 1), FLUSH, FLUSH, FLUSH], [FLUSH, write(0, 0, 1), FLUSH])
        self.check([write(1, 0, 1), FLUSH, FLUSH, write(0, 0, 1), FLUSH, write(0, 0, 2), FLUSH, FLUSH],
                   [write(1, 0, 1), FLUSH, write(0, 0, 1), FLUSH, write(0, 0, 2), FLUSH])

    def test_the_same_place_on_both_sides_of_a_flush(self):
        self.check(
            [write(1, 2, 1), write(1, 2, 2), FLUSH, write(0, 3, 5), write(1, 2, 3), write(1, 2, 4), FLUSH,
             write(1, 2, 5), write(0, 3, 1), write(1, 2, 6), write(0, 3, 2), write(1, 2, 7)],
            [write(1, 2, 2), FLUSH, write(0, 3, 5), write(1, 2, 4), FLUSH, write(0, 3, 2), write(1, 2, 7)],
        )

    def test_rows_are_ordered_as_numbers(self):
        found = schedule([write(0, 3999, 1), write(0, 9, 2), write(0, 100, 3), write(7, 1, 4), write(0, 20, 5)])
        self.assertEqual([request[1:3] for request in found], [(0, 9), (0, 20), (0, 100), (0, 3999), (7, 1)])

    def test_rows_that_become_unreadable(self):
        self.check([("write", 0, 1, [5]), ("write", 0, 1, None)], [("write", 0, 1, None)])
        self.check([("write", 0, 1, None), ("write", 0, 1, [])], [("write", 0, 1, [])])

    def test_random_lists(self):
        chosen = seeded(40)
        for _ in range(2000):
            requests = []
            for number in range(chosen.randrange(30)):
                if chosen.randrange(4) == 0:
                    requests.append(FLUSH)
                else:
                    requests.append(write(chosen.randrange(3), chosen.randrange(chosen.choice([2, 6])), number))
            self.check(requests)

    def test_nothing_is_kept(self):
        requests = [write(1, 2, 5), write(0, 1, 6), FLUSH]
        before = copy.deepcopy(requests)
        found = schedule(requests)
        for request in found[:2]:
            request[3].append(1)
        found.pop()
        self.assertEqual(requests, before)
        self.assertEqual(schedule(requests), [before[1], before[0], FLUSH])
        found = schedule(requests)
        requests[0][3][0] = 100
        self.assertEqual(found, [before[1], before[0], FLUSH])


if __name__ == "__main__":
    unittest.main()
