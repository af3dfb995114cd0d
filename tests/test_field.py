import random
import unittest

from paritypool.errors import InvalidArgument
from paritypool.field import inverse, value_at

PRIME = 65521


def horner(coefficients, x):
    """The value at x of the polynomial, computed without the program."""
    value = 0
    for coefficient in reversed(coefficients):
        value = (value * x + coefficient) % PRIME
    return value


class Inverse(unittest.TestCase):
    def check(self, a):
        b = inverse(a)
        self.assertIs(type(b), int)
        self.assertTrue(0 <= b < PRIME, (a, b))
        self.assertEqual(a * b % PRIME, 1, (a, b))

    def test_every_word_but_0(self):
        for a in range(1, PRIME):
            self.check(a)

    def test_the_ends(self):
        self.assertEqual(inverse(1), 1)
        self.assertEqual(inverse(65520), 65520)
        self.assertEqual(inverse(-1), 65520)

    def test_negative_integers(self):
        for a in (-1, -2, -3, -65520, -65522, -131041, -10 ** 30 + 7):
            self.check(a)

    def test_integers_above_the_prime(self):
        for a in (65522, 2 * PRIME - 1, 2 * PRIME + 1, 10 ** 9, 10 ** 100 + 1, PRIME ** 5 + 12345):
            self.check(a)

    def test_equal_modulo_the_prime_means_equal_inverses(self):
        for a in (1, 2, 777, 65520):
            for many in (-10 ** 20, -1, 1, 10 ** 20):
                self.assertEqual(inverse(a + many * PRIME), inverse(a))

    def test_multiples_of_the_prime_are_refused(self):
        for a in (0, PRIME, -PRIME, 2 * PRIME, PRIME * PRIME, PRIME * 10 ** 50, -PRIME * 10 ** 50):
            with self.subTest(a), self.assertRaises(InvalidArgument):
                inverse(a)


class ValueAt(unittest.TestCase):
    def test_one_point_is_a_constant(self):
        for x in (-7, 0, 3, 4, PRIME + 3, 10 ** 40):
            self.assertEqual(value_at([(3, 9)], x), 9)
            self.assertEqual(value_at([(3, 9 - 2 * PRIME)], x), 9)

    def test_two_points_are_a_line(self):
        for x in (-3, 0, 1, 2, 100, PRIME - 1, 10 ** 12):
            self.assertEqual(value_at([(0, 5), (1, 7)], x), (5 + 2 * x) % PRIME)

    def test_points_of_random_polynomials(self):
        chosen = random.Random(8)
        for number in range(300):
            many = chosen.randrange(1, 12)
            coefficients = [chosen.randrange(PRIME) for _ in range(many)]
            # Sometimes more points than coefficients, in any order.
            residues = chosen.sample(range(PRIME), many + chosen.randrange(3))
            places = [residue + PRIME * chosen.randrange(-10 ** 6, 10 ** 6) for residue in residues]
            points = [(x, horner(coefficients, x) + PRIME * chosen.randrange(-9, 9)) for x in places]
            asked = [chosen.randrange(-10 ** 20, 10 ** 20), chosen.choice(places),
                     chosen.choice(places) + PRIME, 0]
            before = list(points)
            for x in asked:
                answer = value_at(points, x)
                self.assertIs(type(answer), int)
                self.assertEqual(answer, horner(coefficients, x), (points, x))
            self.assertEqual(points, before)

    def test_the_asked_place_is_the_place_of_a_point(self):
        points = [(4, 11), (-1, PRIME + 5), (PRIME + 9, -3)]
        for many in (-2, -1, 0, 1, 10 ** 9):
            self.assertEqual(value_at(points, 4 + many * PRIME), 11)
            self.assertEqual(value_at(points, -1 + many * PRIME), 5)
            self.assertEqual(value_at(points, 9 + many * PRIME), PRIME - 3)

    def test_more_points_than_coefficients(self):
        self.assertEqual(value_at([(k, 6) for k in range(20)], 1000), 6)
        self.assertEqual(value_at([(k, 0) for k in range(20)], 1000), 0)
        self.assertEqual(value_at([(k, k * k) for k in range(-10, 10)], 10 ** 6), 10 ** 12 % PRIME)

    def test_very_large_integers(self):
        huge = 10 ** 300
        self.assertEqual(value_at([(huge, huge), (huge + 1, huge + 1)], -huge), -huge % PRIME)

    def test_no_point_is_refused(self):
        with self.assertRaises(InvalidArgument):
            value_at([], 1)

    def test_equal_places_are_refused_at_any_positions(self):
        for many in (2, 3, 5):
            for first in range(many):
                for second in range(first):
                    for difference in (0, PRIME, -PRIME, PRIME * 10 ** 30):
                        points = [(x * 10, x) for x in range(many)]
                        points[first] = (points[second][0] + difference, 3)
                        for x in (0, 5, points[first][0], 10 ** 7):
                            with self.assertRaises(InvalidArgument):
                                value_at(points, x)

    def test_the_list_of_points_stays_as_it_was_when_it_is_refused(self):
        points = [(1, 2), (1 + PRIME, 2)]
        with self.assertRaises(InvalidArgument):
            value_at(points, 0)
        self.assertEqual(points, [(1, 2), (1 + PRIME, 2)])


if __name__ == "__main__":
    unittest.main()
