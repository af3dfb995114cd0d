import copy
import itertools
import random
import unittest

from paritypool.erasure import consistent, encode, recover, wrong_pieces
from paritypool.errors import InvalidArgument, NotEnoughPieces
from paritypool.field import value_at

PRIME = 65521

SHAPES = [(data, parity) for data in range(1, 9) for parity in range(0, 9 - data)]


def make_stripe(chosen, data, parity, length):
    pieces = [[chosen.choice([0, 65520, chosen.randrange(PRIME)]) for _ in range(length)] for _ in range(data)]
    return pieces + encode(pieces, parity)


def with_lost(stripe, lost):
    return [None if number in lost else list(piece) for number, piece in enumerate(stripe)]


def change_word(chosen, piece):
    at = chosen.randrange(len(piece))
    piece[at] = (piece[at] + chosen.randrange(1, PRIME)) % PRIME


def subsets(numbers):
    for many in range(len(numbers) + 1):
        yield from itertools.combinations(numbers, many)


def slow_consistent(pieces, data):
    present = [number for number, piece in enumerate(pieces) if piece is not None]
    for number in present[data:]:
        for at, word in enumerate(pieces[number]):
            if value_at([(other, pieces[other][at]) for other in present[:data]], number) != word:
                return False
    return True


def culprit_sets(pieces, data):
    """All culprit sets, the smallest first: every set is tried."""
    present = [number for number, piece in enumerate(pieces) if piece is not None]
    lost = len(pieces) - len(present)
    found = []
    for members in subsets(present):
        if 2 * len(members) + lost <= len(pieces) - data:
            if slow_consistent(with_lost_too(pieces, members), data):
                found.append(list(members))
    return found


def with_lost_too(pieces, members):
    return [None if number in members else piece for number, piece in enumerate(pieces)]


class Encode(unittest.TestCase):
    def test_each_word_is_the_value_of_the_polynomial(self):
        chosen = random.Random(16)
        for data, parity in SHAPES:
            for length in (0, 1, 5):
                pieces = [[chosen.randrange(PRIME) for _ in range(length)] for _ in range(data)]
                before = copy.deepcopy(pieces)
                found = encode(pieces, parity)
                self.assertEqual(pieces, before)
                expected = [[value_at([(j, pieces[j][at]) for j in range(data)], data + k) for at in range(length)]
                            for k in range(parity)]
                self.assertEqual(found, expected)

    def test_parity_0_and_pieces_of_length_0(self):
        self.assertEqual(encode([[1, 2], [3, 4]], 0), [])
        self.assertEqual(encode([[], []], 3), [[], [], []])
        self.assertEqual(encode([[1]] * 8, 0), [])
        self.assertEqual(encode([[4, 5]], 7), [[4, 5]] * 7)

    def test_answers_belong_to_the_caller(self):
        pieces = [[4, 5]]
        first = encode(pieces, 2)
        first[0][0] = 9
        self.assertEqual(first[1], [4, 5])
        self.assertEqual(pieces, [[4, 5]])
        self.assertEqual(encode(pieces, 2), [[4, 5], [4, 5]])

    def test_what_is_refused(self):
        wrong = (
            ([], 0), ([], 2), ([], -1), ([[1]], -1), ([[1], [2]], -5), ([[1]], 8), ([[1]] * 8, 1),
            ([[1]] * 9, 0), ([[1]] * 5, 4), ([[1]], 10 ** 20), ([[1], [1, 2]], 1), ([[], [1]], 1),
            ([[1, 2], [1, 2], [1]], 0), ([[1], []], 1),
        )
        for pieces, parity in wrong:
            before = copy.deepcopy(pieces)
            with self.subTest((pieces, parity)), self.assertRaises(InvalidArgument):
                encode(pieces, parity)
            self.assertEqual(pieces, before)


class Recover(unittest.TestCase):
    def test_every_set_of_lost_pieces(self):
        chosen = random.Random(17)
        for data, parity in SHAPES:
            stripe = make_stripe(chosen, data, parity, 2)
            for lost in subsets(range(data + parity)):
                pieces = with_lost(stripe, lost)
                before = copy.deepcopy(pieces)
                if len(lost) > parity:
                    for function in (recover, consistent, wrong_pieces):
                        with self.assertRaises(NotEnoughPieces):
                            function(pieces, data)
                else:
                    self.assertEqual(recover(pieces, data), stripe)
                self.assertEqual(pieces, before)

    def test_pieces_of_length_0(self):
        self.assertEqual(recover([[], None, None], 1), [[], [], []])
        self.assertEqual(recover([None, [], []], 2), [[], [], []])

    def test_present_pieces_stay_and_the_first_ones_count(self):
        self.assertEqual(recover([[5], [7], [100], None], 2), [[5], [7], [100], [11]])
        self.assertEqual(recover([None, [7], [9], [100]], 2), [[5], [7], [9], [100]])
        self.assertEqual(recover([[5], [7]], 2), [[5], [7]])

    def test_answers_belong_to_the_caller(self):
        pieces = [[5, 1], [7, 2], None]
        whole = recover(pieces, 2)
        for piece in whole:
            piece[0] = 99
        whole.append([1])
        self.assertEqual(pieces, [[5, 1], [7, 2], None])
        self.assertEqual(recover(pieces, 2), [[5, 1], [7, 2], [9, 3]])

    def test_what_is_refused(self):
        wrong = (
            ([[1]] * 9, 1), ([[1]] * 9, 0), ([[1], [2]], 0), ([[1], [2]], -1), ([[1], [2]], 3), ([], 1), ([], 0),
            ([[1], [1, 2]], 1), ([[1], None, [1, 2]], 2), ([None, [], [1]], 1), ([[1], [1], [1, 2]], 2),
            # These come before the number of the present pieces is looked at.
            ([None] * 9, 1), ([None, None], 3), ([None, None], 0), ([[1], [1, 2], None, None], 3),
        )
        for pieces, data in wrong:
            before = copy.deepcopy(pieces)
            for function in (recover, consistent, wrong_pieces):
                with self.subTest((function.__name__, pieces, data)), self.assertRaises(InvalidArgument):
                    function(pieces, data)
            self.assertEqual(pieces, before)

    def test_too_few_pieces(self):
        for pieces, data in (([None], 1), ([None, [1]], 2), ([None, None, [1], [2]], 3), ([None] * 8, 1)):
            for function in (recover, consistent, wrong_pieces):
                with self.subTest((function.__name__, pieces, data)), self.assertRaises(NotEnoughPieces):
                    function(pieces, data)


class Consistent(unittest.TestCase):
    def test_pieces_of_one_stripe(self):
        chosen = random.Random(18)
        for data, parity in SHAPES:
            stripe = make_stripe(chosen, data, parity, 2)
            for lost in subsets(range(data + parity)):
                if len(lost) <= parity:
                    self.assertIs(consistent(with_lost(stripe, lost), data), True)

    def test_one_changed_word(self):
        chosen = random.Random(19)
        for data, parity in SHAPES:
            stripe = make_stripe(chosen, data, parity, 3)
            for number in range(data + parity):
                pieces = with_lost(stripe, ())
                change_word(chosen, pieces[number])
                before = copy.deepcopy(pieces)
                # With just data pieces nothing can be noticed.
                self.assertIs(consistent(pieces, data), parity == 0)
                if parity:
                    few = with_lost(pieces, [other for other in range(data + parity) if other != number][:parity])
                    self.assertIs(consistent(few, data), True)
                self.assertEqual(pieces, before)

    def test_pieces_of_length_0(self):
        self.assertIs(consistent([[], [], None], 1), True)


class WrongPieces(unittest.TestCase):
    def check(self, pieces, data):
        """Compares with trying all sets; returns the smallest culprit set, or None."""
        sets = culprit_sets(pieces, data)
        before = copy.deepcopy(pieces)
        if sets:
            self.assertEqual([len(members) for members in sets].count(len(sets[0])), 1)
            found = wrong_pieces(pieces, data)
            self.assertIs(type(found), list)
            self.assertEqual(found, sets[0])
        else:
            found = None
            with self.assertRaises(NotEnoughPieces):
                wrong_pieces(pieces, data)
        self.assertEqual(pieces, before)
        return found

    def test_no_wrong_piece(self):
        chosen = random.Random(20)
        for data, parity in SHAPES:
            stripe = make_stripe(chosen, data, parity, 1)
            for many in range(parity + 1):
                lost = chosen.sample(range(data + parity), many)
                self.assertEqual(self.check(with_lost(stripe, lost), data), [])

    def test_as_many_wrong_pieces_as_can_be_found(self):
        chosen = random.Random(21)
        for data, parity in SHAPES:
            stripe = make_stripe(chosen, data, parity, 2)
            for lost_many in range(parity + 1):
                for wrong_many in range((parity - lost_many) // 2 + 1):
                    numbers = chosen.sample(range(data + parity), lost_many + wrong_many)
                    pieces = with_lost(stripe, numbers[wrong_many:])
                    for number in numbers[:wrong_many]:
                        change_word(chosen, pieces[number])
                    self.assertEqual(wrong_pieces(pieces, data), sorted(numbers[:wrong_many]))

    def test_every_single_wrong_piece(self):
        chosen = random.Random(22)
        for data, parity in SHAPES:
            if parity >= 2:
                stripe = make_stripe(chosen, data, parity, 3)
                for number in range(data + parity):
                    pieces = with_lost(stripe, ())
                    change_word(chosen, pieces[number])
                    self.assertEqual(wrong_pieces(pieces, data), [number])

    def test_wrong_pieces_that_fit_another_stripe(self):
        chosen = random.Random(23)
        for data, parity in SHAPES:
            if data + parity > 6:
                continue
            stripe, other = (make_stripe(chosen, data, parity, 1) for _ in range(2))
            for members in subsets(range(data + parity)):
                pieces = [list(other[number] if number in members else piece)
                          for number, piece in enumerate(stripe)]
                lost = chosen.sample(range(data + parity), chosen.randrange(parity + 1))
                self.check(with_lost(pieces, lost), data)
                self.check(pieces, data)

    def test_small_stripes_with_words_from_a_few(self):
        chosen = random.Random(24)
        for data, parity in ((1, 1), (1, 2), (1, 3), (1, 4), (2, 1), (2, 2), (2, 3), (2, 4), (3, 2), (3, 3)):
            for _ in range(60):
                stripe = make_stripe(chosen, data, parity, 2)
                lost = chosen.sample(range(data + parity), chosen.randrange(parity + 1))
                for number in chosen.sample(range(data + parity), chosen.randrange(parity + 1)):
                    change_word(chosen, stripe[number])
                self.check(with_lost(stripe, lost), data)
            for _ in range(40):
                pieces = [chosen.choice([None, [0], [0], [1]]) for _ in range(data + parity)]
                if sum(piece is not None for piece in pieces) >= data:
                    self.check(pieces, data)

    def test_no_culprit_set(self):
        wrong = (
            ([[1], [2]], 1), ([[5], [7], [10]], 2), ([[1], [2], [3]], 1), ([[1], [1], [2], [2]], 1),
            ([[5], [7], None, [10]], 2), ([[1], [2], None], 1),
        )
        for pieces, data in wrong:
            with self.subTest((pieces, data)):
                self.assertIsNone(self.check(pieces, data))

    def test_answers_belong_to_the_caller(self):
        pieces = [[5, 1], [7, 2], [9, 4], [11, 4]]
        wrong_pieces(pieces, 2).append(7)
        self.assertEqual(wrong_pieces(pieces, 2), [2])
        self.assertEqual(pieces, [[5, 1], [7, 2], [9, 4], [11, 4]])


if __name__ == "__main__":
    unittest.main()
