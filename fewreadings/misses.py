"""What rules miss: their gaps, readings that are lacking or false, and rules on the parts of a stretch."""

from fewreadings.errors import InvalidNumber, InvalidReadings, UnknownPlace
from fewreadings.exact import (NOUGHT, ONE, added_up, check_within, checked_fraction, is_less, lowest, minus, only_at,
                               over, plus, times, trimmed, whole_within, worth)
from fewreadings.rules import checked_places, checked_weights, reading, served, weights_for
from fewreadings.weightings import FARTHEST, Weighting, checked_polynomial, power_sum, total

MOST_GAP_POWER = 30
MOST_READ_DEGREE = 4
MOST_PARTS = 12


def checked_readings(readings, count):
    """Return the readings, so many, in lowest terms, or raise InvalidReadings."""
    # A bottom of 0 comes ahead of a wrong number of readings, also behind the last place.
    for index, (_, bottom) in enumerate(readings):
        if bottom == 0:
            raise InvalidReadings(index)
    if len(readings) != count:
        raise InvalidReadings(min(len(readings), count))
    return [lowest(top, bottom) for top, bottom in readings]


def gap_at(weighting, found, shares, power):
    """Return the sum of a power, less what a rule tells for it."""
    rising = [NOUGHT] * power + [ONE]
    told = added_up([times(share, worth(rising, place)) for place, share in zip(found, shares)])
    return minus(power_sum(weighting, power), told)


def gap(weighting, places, weights, power):
    """Return the gap of a rule for a power from 0 to 30."""
    found = checked_places(places)
    shares = checked_weights(weights, len(found))
    check_within(power, 0, MOST_GAP_POWER)
    return gap_at(weighting, found, shares, power)


def first_gap(weighting, places, weights):
    """Return the least power whose gap is not 0, and that gap, None if there is none."""
    degree = served(weighting, places, weights)
    if degree is None:
        return None
    return degree + 1, gap(weighting, places, weights, degree + 1)


def needless_places(weighting, places):
    """Return the indexes of all places whose best weights are 0."""
    return tuple([index for index, weight in enumerate(weights_for(weighting, places)) if weight == NOUGHT])


def heavy_places(weighting, places):
    """Return the indexes of all places whose best weights are above 0."""
    return tuple([index for index, weight in enumerate(weights_for(weighting, places)) if is_less(NOUGHT, weight)])


def polynomial_through(found, worths):
    """Return the polynomial of the least degree that has these worths at places, perhaps at none."""
    result = [NOUGHT] * len(found)
    for index, one in enumerate(worths):
        part = [times(one, coefficient) for coefficient in only_at(found, index)]
        result = [plus(left, right) for left, right in zip(result, part)]
    return trimmed(result)


def polynomial_by(places, readings):
    """Return the polynomial of the least degree that has these readings at the places."""
    found = checked_places(places)
    return tuple(polynomial_through(found, checked_readings(readings, len(found))))


def sum_by(weighting, places, readings):
    """Return the sum of the polynomial of the least degree that has these readings at the places."""
    found = checked_places(places)
    worths = checked_readings(readings, len(found))
    return added_up([times(weight, one) for weight, one in zip(weights_for(weighting, places), worths)])


def lacking_reading(weighting, places, readings, lacking, wanted):
    """Return the only reading at the place of an index by which the sum is a wanted one, else None."""
    found = checked_places(places)
    worths = checked_readings(readings, len(found))
    if not whole_within(lacking, 0, len(found) - 1):
        raise UnknownPlace("no place has this index")
    sought = checked_fraction(wanted)
    weights = weights_for(weighting, places)
    if weights[lacking] == NOUGHT:
        return None
    present = added_up([times(weight, one) for weight, one in zip(weights, worths)])
    return plus(worths[lacking], over(minus(sought, present), weights[lacking]))


def without(listed, index):
    """Return a list without the item of an index."""
    return listed[:index] + listed[index + 1:]


def fits(found, worths, degree):
    """Tell whether a polynomial of at most a degree has these worths at places."""
    return len(polynomial_through(found, worths)) <= degree + 1


def false_alone(found, worths, degree):
    """Return the indexes of all places but for which the worths fit."""
    return [index for index in range(len(found)) if fits(without(found, index), without(worths, index), degree)]


def false_ones(places, readings, degree):
    """Return the indexes of all places whose reading alone can be false, by a degree from 0 to 4."""
    found = checked_places(places)
    worths = checked_readings(readings, len(found))
    check_within(degree, 0, MOST_READ_DEGREE)
    return tuple(false_alone(found, worths, degree))


def repaired(places, readings, degree):
    """Return the readings with the only false one as it must be, None if it can not be told."""
    found = checked_places(places)
    worths = checked_readings(readings, len(found))
    check_within(degree, 0, MOST_READ_DEGREE)
    if fits(found, worths, degree):
        return tuple(worths)
    # Any degree + 1 readings fit, so that each index is found where no more are left without it: where
    # just one is found more are left, and they have just one polynomial.
    alone = false_alone(found, worths, degree)
    if len(alone) != 1:
        return None
    index = alone[0]
    polynomial = polynomial_through(without(found, index), without(worths, index))
    return (*worths[:index], worth(polynomial, found[index]), *worths[index + 1:])


def check_cut(low, high, parts):
    """Raise InvalidNumber for what is no stretch, or can not be cut into so many parts."""
    check_within(low, -FARTHEST, FARTHEST)
    check_within(high, -FARTHEST, FARTHEST)
    if high <= low:
        raise InvalidNumber("a high that is not greater than its low")
    check_within(parts, 1, MOST_PARTS)


def cut_sum(low, high, parts, places, weights, polynomial):
    """Return what a rule that is moved to each part of a stretch tells for a polynomial, added up."""
    check_cut(low, high, parts)
    found = checked_places(places)
    shares = checked_weights(weights, len(found))
    checked_polynomial(polynomial)
    half = lowest(high - low, 2 * parts)
    halved = tuple([times(share, half) for share in shares])
    told = NOUGHT
    for part in range(parts):
        middle = plus((low, 1), times((2 * part + 1, 1), half))
        there = tuple([plus(middle, times(half, place)) for place in found])
        told = plus(told, reading(there, halved, polynomial))
    return told


def cut_gap(low, high, parts, places, weights, polynomial):
    """Return the sum of a polynomial by a stretch of the height 1, less what a rule tells on its parts."""
    told = cut_sum(low, high, parts, places, weights, polynomial)
    return minus(total(Weighting((), ((low, high, 1),)), polynomial), told)
