"""Places that are added to told ones, and what sums of powers tell alone."""

from fewreadings.errors import InvalidPlaces, InvalidSums, NoWeighting
from fewreadings.exact import NOUGHT, ONE, check_within, is_less, lowest, minus, over, with_roots, worth
from fewreadings.rules import ascending_places, checked_places
from fewreadings.squares import determinant, solution, square_of_sums
from fewreadings.weightings import weighed

MOST_FURTHER = 4
MOST_SUMS = 9


def checked_further(further, told):
    """Return the further places in lowest terms, or raise InvalidPlaces, also for one that is told."""
    checked = ascending_places(further, MOST_FURTHER)
    for index, place in enumerate(checked):
        if place in told:
            raise InvalidPlaces(index)
    return checked


def grown(weighting, told, count):
    """Return the polynomial of so many further places, None if there is not just one."""
    base = with_roots(told)
    sums = [weighed(weighting, [NOUGHT] * power + base) for power in range(2 * count)]
    wanted = [minus(NOUGHT, one) for one in sums[count:]]
    coefficients = solution(square_of_sums(sums, count), wanted)
    if coefficients is None:
        return None
    return (*coefficients, ONE)


def further_polynomial(weighting, told, count):
    """Return the polynomial whose roots serve best beside told places, None if there is not just one."""
    found = checked_places(told)
    check_within(count, 0, MOST_FURTHER)
    return grown(weighting, found, count)


def is_grown(weighting, told, further):
    """Tell whether further places are roots of the polynomial of as many further places."""
    found = checked_places(told)
    added = checked_further(further, found)
    polynomial = grown(weighting, found, len(added))
    if polynomial is None:
        return False
    return all([worth(polynomial, place) == NOUGHT for place in added])


def checked_sums(sums):
    """Return the sums in lowest terms, or raise InvalidSums."""
    if len(sums) == 0:
        raise InvalidSums(0)
    for index, (_, bottom) in enumerate(sums):
        if index == MOST_SUMS or bottom == 0:
            raise InvalidSums(index)
    return [lowest(top, bottom) for top, bottom in sums]


def determinants_of(checked):
    """Return the determinants of all squares for which there are sums enough."""
    sizes = (len(checked) + 1) // 2
    return [determinant(square_of_sums(checked, size)) for size in range(1, sizes + 1)]


def determinants(sums):
    """Return the list of the determinants of the squares of 1 to 9 sums of powers."""
    return determinants_of(checked_sums(sums))


def next_least(sums):
    """Return the least sum of the next power that a weighting could have behind an even number of sums."""
    checked = checked_sums(sums)
    if len(checked) % 2 == 1:
        raise InvalidSums(len(checked) - 1)
    lesser = determinants_of(checked)
    if any([not is_less(NOUGHT, one) for one in lesser]):
        raise NoWeighting("a determinant that is not above 0")
    # The next determinant is the last of these times the next sum, and what it is for the sum 0.
    size = len(lesser) + 1
    without = determinant(square_of_sums([*checked, NOUGHT], size))
    return over(minus(NOUGHT, without), lesser[-1])
