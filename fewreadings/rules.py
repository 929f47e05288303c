"""Rules: places with a weight each, what they tell, and which weights serve best."""

from fewreadings.errors import InvalidPlaces, InvalidWeights
from fewreadings.exact import NOUGHT, added_up, is_less, lowest, only_at, times, with_roots, worth
from fewreadings.weightings import checked_polynomial, power_sum, weighed

MOST_PLACES = 6


def ascending_places(places, most):
    """Return up to so many places, perhaps none, in lowest terms, or raise InvalidPlaces."""
    checked = []
    for index, (top, bottom) in enumerate(places):
        if index == most or bottom == 0:
            raise InvalidPlaces(index)
        place = lowest(top, bottom)
        if index > 0 and not is_less(checked[-1], place):
            raise InvalidPlaces(index)
        checked.append(place)
    return checked


def checked_places(places):
    """Return the places of a rule in lowest terms, or raise InvalidPlaces."""
    if len(places) == 0:
        raise InvalidPlaces(0)
    return ascending_places(places, MOST_PLACES)


def checked_weights(weights, count):
    """Return the weights, so many, in lowest terms, or raise InvalidWeights."""
    for index, (_, bottom) in enumerate(weights):
        if index == count or bottom == 0:
            raise InvalidWeights(index)
    if len(weights) < count:
        raise InvalidWeights(len(weights))
    return [lowest(top, bottom) for top, bottom in weights]


def reading(places, weights, polynomial):
    """Return what a rule tells for a polynomial of up to 13 integers."""
    found = checked_places(places)
    shares = checked_weights(weights, len(found))
    coefficients = checked_polynomial(polynomial)
    return added_up([times(share, worth(coefficients, place)) for place, share in zip(found, shares)])


def served(weighting, places, weights):
    """Return the greatest degree that a rule serves, None if it serves all."""
    found = checked_places(places)
    shares = checked_weights(weights, len(found))
    # The square of the product of all (x - place) has no reading, but a sum above 0 unless all
    # masses lie at places; then a rule of other weights fails below the number of its places.
    for power in range(2 * len(found) + 1):
        if added_up(shares) != power_sum(weighting, power):
            return power - 1
        shares = [times(share, place) for place, share in zip(found, shares)]
    return None


def weights_for(weighting, places):
    """Return the weights by which places serve at least the degree one less than their number."""
    found = checked_places(places)
    return tuple([weighed(weighting, only_at(found, index)) for index in range(len(found))])


def bar(weighting, places):
    """Return the least polynomial that no rule of these places serves, None if there is none."""
    found = checked_places(places)
    barring = with_roots(found)
    # With the power that is the number of places the argument of served applies again.
    for _ in range(len(found) + 1):
        if weighed(weighting, barring) != NOUGHT:
            return tuple(barring)
        barring = [NOUGHT, *barring]
    return None


def best_degree(weighting, places):
    """Return the greatest degree that any rule of these places serves, None if one serves all."""
    barring = bar(weighting, places)
    if barring is None:
        return None
    return len(barring) - 2
