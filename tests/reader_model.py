"""What is known of a polynomial by linear equations of its coefficients, one for each reading."""

from fractions import Fraction

from fewreadings import errors
from tests import oracle


class Equations:
    """Linear equations of some unknowns, none of which follows from the others."""

    def __init__(self, size):
        self.size = size
        self.rows = []

    def reduced(self, factors, right):
        factors, right = list(factors), Fraction(right)
        for pivot, row, worth in self.rows:
            much = factors[pivot]
            factors = [one - much * other for one, other in zip(factors, row)]
            right -= much * worth
        return factors, right

    def add(self, factors, right):
        """Add an equation, and return whether it can hold together with the others."""
        factors, right = self.reduced(factors, right)
        pivot = next((at for at, factor in enumerate(factors) if factor != 0), None)
        if pivot is None:
            return right == 0
        self.rows.append((pivot, [factor / factors[pivot] for factor in factors], right / factors[pivot]))
        return True

    def sum_of(self, factors):
        """Return what these factors of the unknowns add up to, None if it does not follow."""
        factors, right = self.reduced(factors, 0)
        return None if any(factors) else -right


class ReaderModel:
    def __init__(self, masses, stretches, spots, degree):
        self.sums = [oracle.sum_of_power(masses, stretches, power) for power in range(degree + 1)]
        self.spots = spots
        self.degree = degree
        self.calls = []

    def powers(self, spot):
        return [spot ** power for power in range(self.degree + 1)]

    def equations(self, calls):
        """Return the equations of some calls, None if not all of them can hold."""
        found = Equations(self.degree + 1)
        for index, reading in calls:
            if not found.add(self.powers(self.spots[index]), oracle.untold(reading)):
                return None
        return found

    def seen(self, index, reading):
        calls = self.calls + [(index, oracle.told(oracle.untold(reading)))]
        if self.equations(calls) is None:
            raise errors.Clash
        self.calls = calls
        return sum(one is not None for one in self.known())

    def told_sum(self, factors):
        found = self.equations(self.calls).sum_of(factors)
        return None if found is None else oracle.told(found)

    def known(self):
        return tuple(self.told_sum(self.powers(spot)) for spot in self.spots)

    def sum_known(self):
        return self.told_sum(self.sums)

    def polynomial_known(self):
        found = self.equations(self.calls)
        units = [[int(at == power) for at in range(self.degree + 1)] for power in range(self.degree + 1)]
        coefficients = [found.sum_of(unit) for unit in units]
        if None in coefficients:
            return None
        return tuple(oracle.told(coefficient) for coefficient in oracle.shortened(coefficients))

    def places_left(self):
        return tuple(index for index, one in enumerate(self.known()) if one is None)

    def all_told(self):
        return (self.known(), self.polynomial_known(), self.sum_known(), self.places_left(), self.calls)
