"""Promise 7 of the second stage: what becomes of sums, weights, roots and floors when weightings are moved."""

import unittest
from fractions import Fraction

from fewreadings.errors import InvalidWeighting
from fewreadings.further import determinants, further_polynomial
from fewreadings.misses import gap
from fewreadings.roots import (all_whole, root_floors, root_polynomial, roots_between, steps, whole_rule)
from fewreadings.rules import best_degree, weights_for
from fewreadings.weightings import Weighting, joined, mirrored, moved, power_sums
from tests import oracle


def near_weightings(seed, times):
    """Return weightings that can be moved by up to 5, each with a count and a shift."""
    source = oracle.source_of(seed)
    while times > 0:
        masses = tuple((place, source.randint(1, 20)) for place in sorted(source.sample(range(-15, 16),
                                                                                        source.randint(0, 6))))
        low = source.randint(-15, 14)
        stretches = source.choice(((), ((low, source.randint(low + 1, 15), source.randint(1, 20)),)))
        count = source.randint(1, 6)
        if stretches or len(masses) >= count:
            times -= 1
            yield source, Weighting(masses, stretches), count, source.randint(-5, 5)


def shifted(places, shift):
    return tuple(oracle.told(oracle.untold(place) + shift) for place in places)


def turned(places):
    return tuple((-top, bottom) for top, bottom in places[::-1])


def swapped(polynomial):
    """Return the polynomial whose roots are those of another one times -1, its greatest coefficient again 1."""
    degree = len(polynomial) - 1
    return tuple((top * (-1) ** (degree - power), bottom) for power, (top, bottom) in enumerate(polynomial))


class MovedTest(unittest.TestCase):
    def test_roots(self):
        for source, weighting, count, shift in near_weightings(61, 40):
            scale = source.choice((1, 3, 10 ** 6))
            other = moved(weighting, shift)
            self.assertEqual(root_floors(other, count, scale),
                             [floor + shift * scale for floor in root_floors(weighting, count, scale)])
            self.assertEqual(steps(other, count),
                             [(oracle.told(oracle.untold(step) + shift), size) for step, size in steps(weighting, count)])
            whole = all_whole(weighting, count)
            self.assertEqual(all_whole(other, count), None if whole is None else tuple(one + shift for one in whole))
            low, high = source.randint(-15, 15), source.randint(-15, 15)
            self.assertEqual(roots_between(other, count, (low + shift, 1), (high + shift, 1)),
                             roots_between(weighting, count, (low, 1), (high, 1)))

    def test_weights(self):
        for source, weighting, _, shift in near_weightings(62, 40):
            places = oracle.some_places(source, weighting.masses)
            other = moved(weighting, shift)
            self.assertEqual(weights_for(other, shifted(places, shift)), weights_for(weighting, places))
            self.assertEqual(best_degree(other, shifted(places, shift)), best_degree(weighting, places))
            self.assertEqual(determinants(tuple(power_sums(other, 9))), determinants(tuple(power_sums(weighting, 9))))

    def test_whole_rule(self):
        weighting = Weighting(((-5, 7), (-3, 9), (3, 9), (5, 7)), ())
        for shift in (-15, -1, 0, 2, 15):
            self.assertEqual(whole_rule(moved(weighting, shift), 2),
                             (((-4 + shift, 1), (4 + shift, 1)), ((16, 1), (16, 1))))

    def test_too_far(self):
        with self.assertRaises(InvalidWeighting) as caught:
            root_polynomial(moved(Weighting(((3, 1),), ((0, 9, 1),)), 12), 1)
        self.assertEqual((caught.exception.part, caught.exception.index), (1, 0))


class MirroredTest(unittest.TestCase):
    def test_roots(self):
        for source, weighting, count, _ in near_weightings(63, 40):
            other = mirrored(weighting)
            polynomial = root_polynomial(weighting, count)
            self.assertEqual(root_polynomial(other, count), swapped(polynomial))
            self.assertEqual(steps(other, count), [((-top, bottom), size)
                                                   for (top, bottom), size in steps(weighting, count)])
            scale = source.choice((1, 3, 10 ** 6))
            numbers = [oracle.untold(one) for one in polynomial]
            floors = [-floor if oracle.worth(numbers, Fraction(floor, scale)) == 0 else -floor - 1
                      for floor in root_floors(weighting, count, scale)[::-1]]
            if len(set(floors)) == count:
                self.assertEqual(root_floors(other, count, scale), floors)

    def test_weights(self):
        for source, weighting, count, _ in near_weightings(64, 40):
            places = oracle.some_places(source, weighting.masses)
            other = mirrored(weighting)
            self.assertEqual(weights_for(other, turned(places)), weights_for(weighting, places)[::-1])
            found = further_polynomial(weighting, places, min(count, 4))
            self.assertEqual(further_polynomial(other, turned(places), min(count, 4)),
                             None if found is None else swapped(found))


class JoinedTest(unittest.TestCase):
    def test_sums_and_weights(self):
        source = oracle.source_of(65)
        for _ in range(40):
            masses, stretches = oracle.some_weighting(source)
            cut, end = source.randint(0, len(masses)), source.randint(0, len(stretches))
            if 0 < cut + end < len(masses) + len(stretches):
                one, other = Weighting(masses[:cut], stretches[:end]), Weighting(masses[cut:], stretches[end:])
                whole = Weighting(masses, stretches)
                self.assertEqual(joined(one, other), whole)
                self.assertEqual(joined(other, one), whole)
                places = oracle.some_places(source, masses)
                added = [oracle.told(oracle.untold(left) + oracle.untold(right))
                         for left, right in zip(weights_for(one, places), weights_for(other, places))]
                self.assertEqual(list(weights_for(joined(one, other), places)), added)
                weights = weights_for(one, places)
                self.assertEqual(oracle.untold(gap(joined(one, other), places, weights, 9))
                                 - oracle.untold(gap(one, places, weights, 9)),
                                 oracle.sum_of_power(other.masses, other.stretches, 9))

    def test_roots(self):
        # A weighting and its mirror have roots on both sides, at the same distances.
        for _, weighting, count, _ in near_weightings(66, 40):
            try:
                whole = joined(weighting, mirrored(weighting))
            except InvalidWeighting:
                continue
            polynomial = root_polynomial(whole, count)
            self.assertEqual(polynomial, swapped(polynomial))
            self.assertEqual([shift for shift, _ in steps(whole, count)], [(0, 1)] * count)

    def test_cut_stretches(self):
        one, other = Weighting(((2, 3),), ((-7, 1, 4),)), Weighting((), ((1, 9, 4),))
        whole = Weighting(((2, 3),), ((-7, 9, 4),))
        for count in range(7):
            self.assertEqual(root_polynomial(joined(one, other), count), root_polynomial(whole, count))
            self.assertEqual(root_floors(joined(one, other), count, 10 ** 6), root_floors(whole, count, 10 ** 6))

    def test_masses_alone(self):
        one, other = Weighting(((-4, 3), (2, 1)), ()), Weighting(((2, 4), (7, 1)), ())
        self.assertEqual(root_floors(joined(one, other), 3, 10), [-40, 20, 70])
        self.assertEqual(whole_rule(joined(one, other), 3), (((-4, 1), (2, 1), (7, 1)), ((3, 1), (5, 1), (1, 1))))


if __name__ == "__main__":
    unittest.main()
