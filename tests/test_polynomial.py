import itertools
import random
import unittest

from paritypool.errors import InvalidArgument
from paritypool.field import value_at
from paritypool.polynomial import divide, evaluate, plus, through, times

PRIME = 65521


def some(chosen, many):
    """A polynomial with that many coefficients."""
    words = [chosen.choice([0, 1, 65520, chosen.randrange(PRIME)]) for _ in range(many)]
    if words:
        words[-1] = chosen.choice([1, 65520, chosen.randrange(1, PRIME)])
    return words


def slow_value(polynomial, x):
    return sum(word * x ** power for power, word in enumerate(polynomial)) % PRIME


class PolynomialTest(unittest.TestCase):
    def assert_normal(self, polynomial):
        self.assertIs(type(polynomial), list)
        for word in polynomial:
            self.assertIs(type(word), int)
            self.assertTrue(0 <= word < PRIME)
        if polynomial:
            self.assertNotEqual(polynomial[-1], 0)

    def pairs(self):
        chosen = random.Random(9)
        for first, second in itertools.product(range(7), repeat=2):
            for _ in range(8):
                yield some(chosen, first), some(chosen, second)


class Sums(PolynomialTest):
    def test_sums_have_the_sum_of_the_values(self):
        for first, second in self.pairs():
            before = list(first), list(second)
            total = plus(first, second)
            self.assert_normal(total)
            self.assertLessEqual(len(total), max(len(first), len(second)))
            for x in (0, 1, 2, 65520, 12345, 777, 3):
                self.assertEqual(slow_value(total, x), (slow_value(first, x) + slow_value(second, x)) % PRIME)
            self.assertEqual((first, second), before)

    def test_with_the_polynomial_0(self):
        self.assertEqual(plus([], []), [])
        self.assertEqual(plus([0, 3], []), [0, 3])
        self.assertEqual(plus([], [0, 3]), [0, 3])

    def test_opposite_leading_coefficients(self):
        self.assertEqual(plus([1, 2, 3], [4, 5, 65518]), [5, 7])
        self.assertEqual(plus([1, 0, 3], [4, 0, 65518]), [5])
        self.assertEqual(plus([1, 2, 3], [65520, 65519, 65518]), [])
        self.assertEqual(plus([7, 65520], [65514, 65520]), [0, 65519])

    def test_answers_belong_to_the_caller(self):
        first = [1, 2]
        total = plus(first, [])
        total.append(9)
        self.assertEqual(first, [1, 2])
        self.assertEqual(plus(first, []), [1, 2])
        total = plus([], first)
        total[0] = 9
        self.assertEqual(first, [1, 2])


class Products(PolynomialTest):
    def test_products_have_the_product_of_the_values(self):
        for first, second in self.pairs():
            before = list(first), list(second)
            product = times(first, second)
            self.assert_normal(product)
            many = len(first) + len(second) - 1 if first and second else 0
            self.assertEqual(len(product), many)
            for x in range(12):
                self.assertEqual(slow_value(product, x), slow_value(first, x) * slow_value(second, x) % PRIME)
            self.assertEqual((first, second), before)

    def test_with_the_polynomials_0_and_1(self):
        self.assertEqual(times([], []), [])
        self.assertEqual(times([], [1, 2]), [])
        self.assertEqual(times([1, 2], []), [])
        product = times([1, 2], [1])
        self.assertEqual(product, [1, 2])

    def test_small_products(self):
        self.assertEqual(times([1, 1], [65520, 1]), [65520, 0, 1])
        self.assertEqual(times([0, 0, 2], [0, 3]), [0, 0, 0, 6])
        self.assertEqual(times([65520], [65520]), [1])

    def test_large_products(self):
        self.assertEqual(times([65520] * 200, [65520] * 200)[199], 200)

    def test_answers_belong_to_the_caller(self):
        first = [5, 6]
        product = times(first, [1])
        product[0] = 0
        self.assertEqual(first, [5, 6])
        self.assertEqual(times(first, [1]), [5, 6])


class Quotients(PolynomialTest):
    def check(self, first, second):
        before = list(first), list(second)
        answer = divide(first, second)
        self.assertIs(type(answer), tuple)
        quotient, rest = answer
        self.assert_normal(quotient)
        self.assert_normal(rest)
        self.assertLess(len(rest), len(second))
        self.assertEqual(plus(times(quotient, second), rest), first)
        self.assertEqual((first, second), before)
        return answer

    def test_divisors_of_any_length(self):
        for first, second in self.pairs():
            if second:
                self.check(first, second)

    def test_divisors_with_more_coefficients(self):
        self.assertEqual(self.check([1, 2], [1, 2, 3]), ([], [1, 2]))
        self.assertEqual(self.check([], [1, 2, 3]), ([], []))
        self.assertEqual(self.check([], [4]), ([], []))

    def test_divisors_with_as_many_coefficients(self):
        self.assertEqual(self.check([5, 4], [1, 2]), ([2], [3]))
        self.assertEqual(self.check([6], [4])[0], [(6 * pow(4, -1, PRIME)) % PRIME])

    def test_multiples_of_the_divisor(self):
        for first, second in self.pairs():
            if second:
                self.assertEqual(self.check(times(first, second), second), (first, []))

    def test_long_polynomials(self):
        chosen = random.Random(10)
        self.check(some(chosen, 150), some(chosen, 70))

    def test_the_polynomial_0_as_divisor_is_refused(self):
        for first in ([], [1], [1, 2, 3]):
            with self.assertRaises(InvalidArgument):
                divide(first, [])

    def test_answers_belong_to_the_caller(self):
        first = [1, 2]
        rest = divide(first, [0, 0, 1])[1]
        rest.append(3)
        self.assertEqual(first, [1, 2])
        self.assertEqual(divide(first, [0, 0, 1]), ([], [1, 2]))


class Values(PolynomialTest):
    def test_places_of_either_sign_and_any_size(self):
        for first, _ in self.pairs():
            for x in (-65522, -65521, -3, -1, 0, 1, 2, 65520, 65521, 65522, 10 ** 25, -10 ** 25):
                value = evaluate(first, x)
                self.assertIs(type(value), int)
                self.assertTrue(0 <= value < PRIME)
                self.assertEqual(value, slow_value(first, x))

    def test_the_polynomial_0_and_constants(self):
        self.assertEqual(evaluate([], 5), 0)
        self.assertEqual(evaluate([7], -10 ** 9), 7)
        self.assertEqual(evaluate([1, 2, 3], -1), 2)

    def test_the_argument_stays(self):
        first = [1, 2, 3]
        evaluate(first, 9)
        self.assertEqual(first, [1, 2, 3])


class Through(PolynomialTest):
    def check(self, points):
        before = list(points)
        found = through(points)
        self.assert_normal(found)
        self.assertLessEqual(len(found), len(points))
        for x, y in points:
            self.assertEqual(slow_value(found, x), y % PRIME)
        self.assertEqual(points, before)
        self.assertEqual(evaluate(found, -999), value_at(points, -999))
        return found

    def test_points_with_random_values(self):
        chosen = random.Random(11)
        for many in range(1, 15):
            for _ in range(10):
                places = chosen.sample(range(-40000, 25000), many)
                self.check([(x, chosen.randrange(-10 ** 9, 10 ** 9)) for x in places])

    def test_points_on_a_polynomial_with_fewer_coefficients(self):
        chosen = random.Random(12)
        for many in range(8):
            for more in range(4):
                known = some(chosen, many)
                places = chosen.sample(range(10 ** 6, 10 ** 6 + PRIME), max(1, many + more))
                points = [(x, slow_value(known, x) - PRIME * chosen.randrange(3)) for x in places]
                self.assertEqual(self.check(points), known)

    def test_values_of_0(self):
        self.assertEqual(self.check([(0, 0)]), [])
        self.assertEqual(self.check([(5, PRIME), (6, -PRIME), (7, 0)]), [])
        self.assertEqual(self.check([(0, 0), (1, 1)]), [0, 1])

    def test_the_errors_of_value_at(self):
        wrong = ([], [(1, 2), (1, 2)], [(1, 2), (1, 3)], [(1, 2), (PRIME + 1, 2)], [(0, 1), (5, 1), (-PRIME, 1)],
                 [(3, 1), (4, 1), (4 - PRIME * 10 ** 9, 2), (5, 1)])
        for points in wrong:
            before = list(points)
            with self.assertRaises(InvalidArgument):
                value_at(points, 7)
            with self.assertRaises(InvalidArgument):
                through(points)
            self.assertEqual(points, before)


if __name__ == "__main__":
    unittest.main()
