"""Readers: what is known of a polynomial of a told degree while its readings are told one by one."""

from fewreadings.errors import Clash, UnknownPlace
from fewreadings.exact import NOUGHT, check_within, checked_fraction, whole_within, with_roots, worth
from fewreadings.misses import polynomial_through
from fewreadings.rules import checked_places
from fewreadings.weightings import weighed

MOST_SEEN_DEGREE = 5


class Reader:
    """Somebody who knows the greatest degree of a polynomial, and sees its readings at places."""

    def __init__(self, weighting, places, degree):
        self._weighting = weighting
        self._places = checked_places(places)
        check_within(degree, 0, MOST_SEEN_DEGREE)
        self._degree = degree
        self._readings = {}
        self._accepted = []

    @property
    def known(self):
        """The tuple of the readings at all places, None for those that are not known."""
        polynomial = self.polynomial_known()
        if polynomial is None:
            # With so few readings each further one is still free, so that none is known by others.
            return tuple([self._readings.get(index) for index in range(len(self._places))])
        return tuple([worth(polynomial, place) for place in self._places])

    @property
    def told_so_far(self):
        """The list of all accepted calls, tuples (index, reading)."""
        return list(self._accepted)

    def _read_places(self):
        """Return the list of the places whose readings were told."""
        return [self._places[index] for index in list(self._readings)]

    def _shortest(self):
        """Return the polynomial of the least degree that has all readings that were told."""
        return polynomial_through(self._read_places(), list(self._readings.values()))

    def seen(self, index, reading):
        """Tell the reading at the place of an index, and return at how many places it is known then."""
        if not whole_within(index, 0, len(self._places) - 1):
            raise UnknownPlace("no place has this index")
        told = checked_fraction(reading)
        present = self.known[index]
        if present is not None and present != told:
            raise Clash("no polynomial has this reading and the others")
        self._readings[index] = told
        self._accepted.append((index, told))
        return len(self._places) - len(self.places_left())

    def polynomial_known(self):
        """Return the polynomial, None if there can be several."""
        if len(self._readings) <= self._degree:
            return None
        return tuple(self._shortest())

    def sum_known(self):
        """Return the sum by the weighting that all polynomials with these readings have, else None."""
        # Two such polynomials differ by a multiple of the product of all (x - place) at the places that were read.
        difference = with_roots(self._read_places())
        for _ in range(self._degree + 1 - len(self._readings)):
            if weighed(self._weighting, difference) != NOUGHT:
                return None
            difference = [NOUGHT, *difference]
        return weighed(self._weighting, self._shortest())

    def places_left(self):
        """Return the ascending tuple of the indexes of all places at which the reading is not known."""
        return tuple([index for index, one in enumerate(self.known) if one is None])
