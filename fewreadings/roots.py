"""The polynomials whose roots are the places of the fewest readings, and where these roots lie."""

from fewreadings.errors import TooFew
from fewreadings.exact import (NOUGHT, ONE, check_within, checked_fraction, is_less, lowest, minus, multiplied, over,
                               times, with_root, worth)
from fewreadings.rules import weights_for
from fewreadings.weightings import FARTHEST, weighed

MOST_ROOTS = 6
MOST_DEGREE = 11
FINEST = 1000000


def check_count(weighting, count, least):
    """Raise InvalidNumber or TooFew for a count for which there is no polynomial."""
    check_within(count, least, MOST_ROOTS)
    if len(weighting.stretches) == 0 and len(weighting.masses) < count:
        raise TooFew("no stretch, and fewer masses than the count")


def next_rung(present, ahead, step):
    """Return (x - shift) times the present polynomial, less scale times the one ahead of it."""
    shift, scale = step
    raised = with_root(present, shift)
    lesser = [times(scale, coefficient) for coefficient in ahead]
    lesser = lesser + [NOUGHT] * (len(raised) - len(lesser))
    return [minus(one, other) for one, other in zip(raised, lesser)]


def climbed(weighting, count):
    """Return the list of the polynomials of all counts up to one, and that of the steps between them."""
    rungs = [[ONE]]
    taken = []
    ahead = []
    size_ahead = NOUGHT
    for _ in range(count):
        present = rungs[-1]
        square = multiplied(present, present)
        size = weighed(weighting, square)
        shift = over(weighed(weighting, [NOUGHT, *square]), size)
        scale = NOUGHT
        if len(taken) > 0:
            scale = over(size, size_ahead)
        taken.append((shift, scale))
        rungs.append(next_rung(present, ahead, taken[-1]))
        ahead = present
        size_ahead = size
    return rungs, taken


def root_polynomial(weighting, count):
    """Return the polynomial of a count, 0 to 6, whose product with each of a lesser degree has the sum 0."""
    check_count(weighting, count, 0)
    rungs, _ = climbed(weighting, count)
    return tuple(rungs[-1])


def steps(weighting, count):
    """Return the list of the tuples (shift, scale) by which the polynomials of the next counts are made."""
    check_count(weighting, count, 0)
    _, taken = climbed(weighting, count)
    return taken


def fewest_places(weighting, degree):
    """Return the least number of places of a rule that serves a degree, 0 to 11."""
    check_within(degree, 0, MOST_DEGREE)
    enough = degree // 2 + 1
    if len(weighting.stretches) > 0:
        return enough
    return min(enough, len(weighting.masses))


def roots_above(rungs, place):
    """Return how many roots of the last polynomial lie above a place."""
    # The polynomials of all counts are a Sturm chain: the roots of each lie between those of the next
    # one, so that the signs at a place, without those that are 0, change once for each root above it.
    worths = [worth(rung, place) for rung in rungs]
    above = [top > 0 for top, _ in worths if top != 0]
    return len([1 for one, other in zip(above, above[1:]) if one != other])


def roots_from(rungs, place):
    """Return how many roots of the last polynomial lie at a place or above it."""
    count = roots_above(rungs, place)
    if worth(rungs[-1], place) == NOUGHT:
        count += 1
    return count


def root_floor(rungs, scale, more):
    """Return the greatest integer not above scale times the root above which so many more lie."""
    # All roots lie where the weighting lies, so that the one that is sought stays between both ends.
    low, high = -FARTHEST * scale, FARTHEST * scale + 1
    while high - low > 1:
        middle = (low + high) // 2
        if roots_from(rungs, lowest(middle, scale)) > more:
            low = middle
        else:
            high = middle
    return low


def root_floors(weighting, count, scale):
    """Return the ascending list of the greatest integers not above scale times each root."""
    check_count(weighting, count, 0)
    check_within(scale, 1, FINEST)
    rungs, _ = climbed(weighting, count)
    return [root_floor(rungs, scale, count - 1 - index) for index in range(count)]


def roots_between(weighting, count, low, high):
    """Return how many roots of the polynomial of a count lie above low and not above high."""
    check_count(weighting, count, 0)
    bottom = checked_fraction(low)
    top = checked_fraction(high)
    if not is_less(bottom, top):
        return 0
    rungs, _ = climbed(weighting, count)
    return roots_above(rungs, bottom) - roots_above(rungs, top)


def all_whole(weighting, count):
    """Return the tuple of all roots of the polynomial of a count, 1 to 6, None if not all are integers."""
    check_count(weighting, count, 1)
    rungs, _ = climbed(weighting, count)
    whole = [number for number in range(-FARTHEST, FARTHEST + 1) if worth(rungs[-1], (number, 1)) == NOUGHT]
    if len(whole) < count:
        return None
    return tuple(whole)


def whole_rule(weighting, count):
    """Return the rule at the roots of the polynomial of a count, None if not all of them are integers."""
    whole = all_whole(weighting, count)
    if whole is None:
        return None
    places = tuple([(number, 1) for number in whole])
    return places, weights_for(weighting, places)
