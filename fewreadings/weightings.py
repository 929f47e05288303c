"""Weightings: masses and stretches on a line, their sums of powers and of polynomials, and their moves."""

from fewreadings.errors import InvalidPolynomial, InvalidWeighting
from fewreadings.exact import added_up, check_within, lowest, over, power_of, times, whole_within

FARTHEST = 20
HEAVIEST = 20
MOST_MASSES = 6
MOST_STRETCHES = 4
MOST_POWER = 60
MOST_COEFFICIENTS = 13


class Weighting:
    """Masses (place, mass) and stretches (low, high, height), both ascending."""

    def __init__(self, masses, stretches):
        check_masses(masses)
        check_stretches(stretches)
        if len(masses) == 0 and len(stretches) == 0:
            raise InvalidWeighting(2, 0)
        self._masses = tuple([(place, mass) for place, mass in masses])
        self._stretches = tuple([(low, high, height) for low, high, height in stretches])

    @property
    def masses(self):
        """The tuple of all masses."""
        return self._masses

    @property
    def stretches(self):
        """The tuple of all stretches."""
        return self._stretches

    def __eq__(self, other):
        return (isinstance(other, Weighting) and self._masses == other._masses
                and self._stretches == other._stretches)


def is_place(number):
    """Tell whether a mass or an end of a stretch can lie there."""
    return whole_within(number, -FARTHEST, FARTHEST)


def is_mass(number):
    """Tell whether a mass or a height can be so much."""
    return whole_within(number, 1, HEAVIEST)


def check_masses(masses):
    """Raise InvalidWeighting for the first mass that is not as it must be."""
    ahead = -FARTHEST - 1
    for index, (place, mass) in enumerate(masses):
        if index == MOST_MASSES or not is_place(place) or not is_mass(mass) or place <= ahead:
            raise InvalidWeighting(0, index)
        ahead = place


def check_stretches(stretches):
    """Raise InvalidWeighting for the first stretch that is not as it must be."""
    ahead = -FARTHEST
    for index, (low, high, height) in enumerate(stretches):
        if index == MOST_STRETCHES or not is_place(low) or not is_place(high) or not is_mass(height):
            raise InvalidWeighting(1, index)
        if low < ahead or high <= low:
            raise InvalidWeighting(1, index)
        ahead = high


def checked_polynomial(polynomial):
    """Return the integers of a polynomial as fractions, or raise InvalidPolynomial."""
    if len(polynomial) > MOST_COEFFICIENTS:
        raise InvalidPolynomial(f"more than {MOST_COEFFICIENTS} coefficients")
    return [(coefficient, 1) for coefficient in polynomial]


def power_sum(weighting, power):
    """Return the sum of a power, 0 to 60, by a weighting."""
    check_within(power, 0, MOST_POWER)
    # All areas have the bottom power + 1, so that one fraction holds everything.
    up = power + 1
    masses = sum([mass * power_of(place, power) for place, mass in weighting.masses])
    areas = sum([height * (power_of(high, up) - power_of(low, up)) for low, high, height in weighting.stretches])
    return lowest(masses * up + areas, up)


def power_sums(weighting, count):
    """Return the list of the sums of the first so many powers, 0 to 61."""
    check_within(count, 0, MOST_POWER + 1)
    return [power_sum(weighting, power) for power in range(count)]


def weighed(weighting, coefficients):
    """Return the sum of a polynomial, a list of fractions, by a weighting."""
    return added_up([times(coefficient, power_sum(weighting, power))
                     for power, coefficient in enumerate(coefficients)])


def total(weighting, polynomial):
    """Return the sum of a polynomial of up to 13 integers by a weighting."""
    return weighed(weighting, checked_polynomial(polynomial))


def mean(weighting, polynomial):
    """Return the sum of a polynomial, divided by the sum of the power 0."""
    return over(total(weighting, polynomial), power_sum(weighting, 0))


def moved(weighting, shift):
    """Return the weighting with all places shift further."""
    masses = [(place + shift, mass) for place, mass in weighting.masses]
    stretches = [(low + shift, high + shift, height) for low, high, height in weighting.stretches]
    return Weighting(tuple(masses), tuple(stretches))


def mirrored(weighting):
    """Return the weighting with all places times -1."""
    masses = [(-place, mass) for place, mass in weighting.masses]
    stretches = [(-high, -low, height) for low, high, height in weighting.stretches]
    return Weighting(tuple(masses[::-1]), tuple(stretches[::-1]))


def joined(one, other):
    """Return the weighting of the masses and the stretches of two weightings."""
    masses = {}
    for place, mass in one.masses + other.masses:
        masses[place] = masses.get(place, 0) + mass
    return Weighting(tuple(sorted(masses.items())), tuple(sorted(one.stretches + other.stretches)))
