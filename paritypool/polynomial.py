"""Polynomials modulo the prime: lists of words, whose last word is not 0."""

from paritypool.errors import InvalidArgument
from paritypool.field import distinct_places, inverse
from paritypool.limits import PRIME


def normal(numbers):
    """Return the polynomial that has these integers as its coefficients."""
    many = len(numbers)
    while many > 0 and numbers[many - 1] % PRIME == 0:
        many -= 1
    return [number % PRIME for number in numbers[:many]]


def plus(first, second):
    """Return the sum of two polynomials."""
    sums = [0] * max(len(first), len(second))
    for polynomial in (first, second):
        for power, word in enumerate(polynomial):
            sums[power] += word
    return normal(sums)


def times(first, second):
    """Return the product of two polynomials."""
    sums = [0] * (len(first) + len(second))
    for low, word in enumerate(first):
        for high, factor in enumerate(second):
            sums[low + high] += word * factor
    return normal(sums)


def divide(first, second):
    """Return the quotient and the remainder of the first polynomial divided by the second one."""
    rest, divisor = normal(first), normal(second)
    if not divisor:
        raise InvalidArgument("the divisor is the polynomial 0")
    top = len(divisor) - 1
    lead = inverse(divisor[top])
    quotient = [0] * len(rest)
    for shift in range(len(rest) - len(divisor), -1, -1):
        factor = rest[shift + top] * lead % PRIME
        quotient[shift] = factor
        for power, word in enumerate(divisor):
            rest[shift + power] -= factor * word
    return normal(quotient), normal(rest)


def evaluate(polynomial, x):
    """Return the value of the polynomial at the integer x."""
    value = 0
    for word in reversed(polynomial):
        value = (value * x + word) % PRIME
    return value


def through(points):
    """Return the polynomial through the points with at most as many coefficients as there are points."""
    found, basis = [], [1]
    for place, point in zip(distinct_places(points), points):
        # The basis is 0 at all places so far, so adding a multiple of it changes nothing there.
        missing = point[1] - evaluate(found, place)
        factor = missing * inverse(evaluate(basis, place))
        found = plus(found, normal([factor * word for word in basis]))
        basis = times(basis, [-place, 1])
    return found
