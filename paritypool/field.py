"""Arithmetic on words: inverses, and polynomials that are given by points."""

from paritypool.errors import InvalidArgument
from paritypool.limits import PRIME


def inverse(a):
    """Return the word that leaves the remainder 1 when it is multiplied by the integer a."""
    # Euclid's algorithm: at each step, a times a factor leaves the same remainder as the number above it.
    number, next_number = PRIME, a % PRIME
    factor, next_factor = 0, 1
    if next_number == 0:
        raise InvalidArgument("a multiple of the prime has no inverse")
    while next_number != 0:
        quotient = number // next_number
        number, next_number = next_number, number - quotient * next_number
        factor, next_factor = next_factor, factor - quotient * next_factor
    return factor % PRIME


def distinct_places(points):
    """Return the places of the points as words, of which there is at least one and no two are equal."""
    if not points:
        raise InvalidArgument("there is no point")
    places = [x % PRIME for x, _ in points]
    if len(set(places)) < len(places):
        raise InvalidArgument("two points have the same place")
    return places


def weight(place, others, x):
    """Return the value at x of the polynomial that is 1 at the place and 0 at all the others."""
    above, below = 1, 1
    for other in others:
        above = above * (x - other) % PRIME
        below = below * (place - other) % PRIME
    return above * inverse(below) % PRIME


def weights(places, x):
    """Return the factor of the value at each place in the value at x.

    The places are distinct words. The value at x of a polynomial with at most as many coefficients as
    there are places is the sum of its values at the places, each multiplied by its factor.
    """
    return [weight(place, places[:at] + places[at + 1:], x) for at, place in enumerate(places)]


def value_at(points, x):
    """Return the value at the integer x of the polynomial through the points."""
    factors = weights(distinct_places(points), x)
    return sum([factor * y for factor, (_, y) in zip(factors, points)]) % PRIME
