"""Exact numbers: fractions, tuples (top, bottom) in lowest terms, and lists of them as polynomials.

The item of a polynomial at an index is its coefficient of that power.
"""

from math import gcd

from fewreadings.errors import InvalidFraction, InvalidNumber

NOUGHT = (0, 1)
ONE = (1, 1)


def whole_within(number, low, high):
    """Tell whether a number is an integer from low to high."""
    # Python takes a boolean for an integer, the document does not.
    return isinstance(number, int) and not isinstance(number, bool) and low <= number <= high


def check_within(number, low, high):
    """Raise InvalidNumber for what is not an integer from low to high."""
    if not whole_within(number, low, high):
        raise InvalidNumber(f"not an integer from {low} to {high}")


def power_of(base, power):
    """Return an integer to a power from 0 on; 0 to the power 0 is 1."""
    result = 1
    for _ in range(power):
        result = result * base
    return result


def lowest(top, bottom):
    """Return a fraction whose bottom is not 0 in lowest terms, the bottom above 0."""
    shared = gcd(top, bottom)
    if bottom < 0:
        shared = -shared
    return (top // shared, bottom // shared)


def checked_fraction(fraction):
    """Return a fraction in lowest terms, or raise InvalidFraction."""
    top, bottom = fraction
    if bottom == 0:
        raise InvalidFraction("a fraction with the bottom 0")
    return lowest(top, bottom)


def plus(one, other):
    """Return the sum of two fractions."""
    return lowest(one[0] * other[1] + other[0] * one[1], one[1] * other[1])


def minus(one, other):
    """Return one fraction less another one."""
    return lowest(one[0] * other[1] - other[0] * one[1], one[1] * other[1])


def times(one, other):
    """Return the product of two fractions."""
    return lowest(one[0] * other[0], one[1] * other[1])


def over(one, other):
    """Return one fraction divided by another one, which is not 0."""
    return lowest(one[0] * other[1], one[1] * other[0])


def is_less(one, other):
    """Tell whether one fraction is less than another one."""
    return one[0] * other[1] < other[0] * one[1]


def added_up(fractions):
    """Return the sum of a list of fractions."""
    result = NOUGHT
    for fraction in fractions:
        result = plus(result, fraction)
    return result


def with_root(polynomial, place):
    """Return the product of a polynomial and (x - place)."""
    raised = [NOUGHT, *polynomial]
    shrunk = [times(coefficient, place) for coefficient in polynomial] + [NOUGHT]
    return [minus(one, other) for one, other in zip(raised, shrunk)]


def with_roots(places):
    """Return the product of all (x - place)."""
    result = [ONE]
    for place in places:
        result = with_root(result, place)
    return result


def worth(polynomial, place):
    """Return what a polynomial is at a place."""
    result = NOUGHT
    for coefficient in reversed(polynomial):
        result = plus(times(result, place), coefficient)
    return result


def only_at(places, index):
    """Return the polynomial that is 1 at the place of an index, and 0 at all others."""
    others = with_roots(places[:index] + places[index + 1:])
    scale = worth(others, places[index])
    return [over(coefficient, scale) for coefficient in others]


def multiplied(one, other):
    """Return the product of two polynomials, each of one coefficient at least."""
    result = [NOUGHT] * (len(one) + len(other) - 1)
    for low, left in enumerate(one):
        for high, right in enumerate(other):
            result[low + high] = plus(result[low + high], times(left, right))
    return result


def trimmed(polynomial):
    """Return a polynomial without the zeros at its end."""
    length = len(polynomial)
    while length > 0 and polynomial[length - 1] == NOUGHT:
        length -= 1
    return polynomial[:length]
