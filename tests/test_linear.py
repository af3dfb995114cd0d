import copy
import itertools
import random
import unittest

from paritypool.errors import InvalidArgument
from paritypool.linear import solve

PRIME = 65521


class Solve(unittest.TestCase):
    def assert_words(self, words, many):
        self.assertIs(type(words), list)
        self.assertEqual(len(words), many)
        for word in words:
            self.assertIs(type(word), int)
            self.assertTrue(0 <= word < PRIME, word)

    def check(self, rows, right):
        """Checks the answer; returns whether it is a solution."""
        before = copy.deepcopy((rows, right))
        answer = solve(rows, right)
        self.assertEqual((rows, right), before)
        self.assertIs(type(answer), tuple)
        solution, refutation = answer
        self.assertEqual([solution, refutation].count(None), 1)
        if refutation is None:
            self.assert_words(solution, len(rows[0]))
            for row, side in zip(rows, right):
                self.assertEqual(sum(a * b for a, b in zip(row, solution)) % PRIME, side)
            return True
        self.assert_words(refutation, len(rows))
        for column in zip(*rows):
            self.assertEqual(sum(a * b for a, b in zip(column, refutation)) % PRIME, 0)
        self.assertEqual(sum(a * b for a, b in zip(right, refutation)) % PRIME, 1)
        return False

    def test_one_solution(self):
        self.assertEqual(solve([[1]], [7]), ([7], None))
        self.assertEqual(solve([[2]], [1]), ([32761], None))
        self.assertEqual(solve([[0, 1], [1, 0]], [3, 4]), ([4, 3], None))
        self.assertEqual(solve([[1, 0], [0, 1], [1, 1]], [3, 4, 7]), ([3, 4], None))

    def test_several_solutions(self):
        self.assertTrue(self.check([[1, 2, 3]], [4]))
        self.assertTrue(self.check([[0, 0, 5]], [10]))
        self.assertTrue(self.check([[1, 1], [2, 2]], [5, 10]))
        self.assertTrue(self.check([[0, 0, 0]], [0]))
        self.assertTrue(self.check([[0], [0]], [0, 0]))

    def test_no_solution(self):
        self.assertFalse(self.check([[0]], [1]))
        self.assertFalse(self.check([[0, 0]], [65520]))
        self.assertFalse(self.check([[1, 1], [1, 1]], [1, 2]))
        self.assertFalse(self.check([[1], [1], [2]], [1, 1, 3]))
        self.assertFalse(self.check([[1, 2], [3, 4], [4, 6]], [5, 6, 12]))
        self.assertFalse(self.check([[65520, 1], [1, 65520]], [1, 1]))

    def test_the_last_rows_need_not_be_wrong(self):
        self.assertFalse(self.check([[0, 0], [1, 0], [0, 1]], [3, 1, 1]))
        self.assertFalse(self.check([[0, 0], [0, 0], [0, 1]], [0, 7, 1]))

    def test_columns_of_zeros(self):
        self.assertTrue(self.check([[0, 1, 0, 2], [0, 3, 0, 4]], [5, 6]))
        self.assertFalse(self.check([[0, 1, 0], [0, 1, 0]], [5, 6]))

    def test_all_small_systems(self):
        for many, columns in ((1, 1), (1, 2), (2, 1), (2, 2), (3, 1)):
            for words in itertools.product((0, 1, 65520), repeat=many * columns):
                rows = [list(words[at * columns:(at + 1) * columns]) for at in range(many)]
                for right in itertools.product((0, 1, 2), repeat=many):
                    solvable = self.check(rows, list(right))
                    # Every possible solution has small words here, if there is one at all.
                    tried = itertools.product((0, 1, 2, 65520, 65519, 32761, 32760), repeat=columns)
                    if any(self.fits(rows, right, solution) for solution in tried):
                        self.assertTrue(solvable, (rows, right))

    def fits(self, rows, right, solution):
        return all(sum(a * b for a, b in zip(row, solution)) % PRIME == side for row, side in zip(rows, right))

    def test_random_systems_of_every_shape(self):
        chosen = random.Random(13)
        for many, columns in itertools.product(range(1, 8), repeat=2):
            for _ in range(6):
                rows = [[chosen.randrange(PRIME) for _ in range(columns)] for _ in range(many)]
                self.check(rows, [chosen.randrange(PRIME) for _ in range(many)])
                secret = [chosen.randrange(PRIME) for _ in range(columns)]
                right = [sum(a * b for a, b in zip(row, secret)) % PRIME for row in rows]
                self.assertTrue(self.check(rows, right))

    def test_rows_that_are_sums_of_other_rows(self):
        chosen = random.Random(14)
        for _ in range(150):
            columns = chosen.randrange(1, 7)
            rank = chosen.randrange(1, 4)
            basis = [[chosen.choice([0, 0, 1, chosen.randrange(PRIME)]) for _ in range(columns + 1)]
                     for _ in range(rank)]
            lines = []
            for _ in range(chosen.randrange(1, 9)):
                factors = [chosen.choice([0, 1, 65520, chosen.randrange(PRIME)]) for _ in basis]
                lines.append([sum(f * line[at] for f, line in zip(factors, basis)) % PRIME
                              for at in range(columns + 1)])
            rows = [line[:-1] for line in lines]
            right = [line[-1] for line in lines]
            self.check(rows, right)
            # One changed right side can make it unsolvable, and the other rows tell so.
            at = chosen.randrange(len(right))
            right[at] = (right[at] + 1) % PRIME
            self.check(rows, right)

    def test_a_large_system(self):
        chosen = random.Random(15)
        rows = [[chosen.randrange(PRIME) for _ in range(40)] for _ in range(40)]
        self.assertTrue(self.check(rows, [chosen.randrange(PRIME) for _ in range(40)]))
        rows.append([(a + b) % PRIME for a, b in zip(rows[3], rows[9])])
        self.assertFalse(self.check(rows, [0] * 40 + [1]))

    def test_answers_belong_to_the_caller(self):
        rows, right = [[1, 0], [0, 1]], [3, 4]
        solve(rows, right)[0][0] = 99
        self.assertEqual(solve(rows, right), ([3, 4], None))
        self.assertEqual((rows, right), ([[1, 0], [0, 1]], [3, 4]))

    def test_wrong_systems_are_refused(self):
        wrong = (
            ([], []), ([], [1]), ([[]], [1]), ([[], []], [1, 1]), ([[], [1]], [1, 1]), ([[1], []], [1, 1]),
            ([[1, 2], [1]], [1, 1]), ([[1], [1, 2]], [1, 1]), ([[1, 2], [1, 2], [1, 2, 3]], [1, 1, 1]),
            ([[1]], []), ([[1]], [1, 2]), ([[1], [2]], [1]), ([[1], [2]], [1, 2, 3]),
        )
        for rows, right in wrong:
            before = copy.deepcopy((rows, right))
            with self.subTest((rows, right)), self.assertRaises(InvalidArgument):
                solve(rows, right)
            self.assertEqual((rows, right), before)


if __name__ == "__main__":
    unittest.main()
