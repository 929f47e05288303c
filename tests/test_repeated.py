"""Repeated calls of all functions, what callers change between them, and known answers at the edges."""

import copy
import unittest

from fewreadings import weightings
from fewreadings.further import determinants, further_polynomial, is_grown, next_least
from fewreadings.misses import first_gap, gap
from fewreadings.roots import (all_whole, fewest_places, root_floors, root_polynomial, roots_between, steps,
                               whole_rule)
from fewreadings.rules import bar, best_degree, served, weights_for
from fewreadings.weightings import Weighting, power_sum, power_sums
from tests import oracle
from tests.test_wrong_at_once import CASES

SINGLE = Weighting(((3, 5),), ())
LINE = Weighting((), ((-1, 1, 1),))
THREE = Weighting(((-1, 1), (0, 2), (1, 1)), ())


class RepeatedTest(unittest.TestCase):
    def test_two_calls(self):
        for call, right, _ in CASES:
            with self.subTest(call=call.__name__):
                before = copy.deepcopy(right)
                first = call(*right)
                second = call(*right)
                self.assertEqual((first, type(first)), (second, type(second)))
                self.assertEqual(right, before)
                self.assertEqual(call(*copy.deepcopy(right)), first)

    def test_returned_lists_are_free(self):
        sums = tuple(power_sums(LINE, 6))
        for call, right in ((power_sums, (LINE, 5)), (steps, (LINE, 4)), (root_floors, (LINE, 4, 10)),
                            (determinants, (sums,))):
            with self.subTest(call=call.__name__):
                found = call(*right)
                wanted = list(found)
                found.reverse()
                found.clear()
                self.assertEqual(call(*right), wanted)
                self.assertIsNot(call(*right), call(*right))

    def test_kinds(self):
        for call, right, kind in (
                (root_polynomial, (LINE, 2), tuple), (steps, (LINE, 2), list), (root_floors, (LINE, 2, 1), list),
                (fewest_places, (LINE, 2), int), (roots_between, (LINE, 2, (0, 1), (1, 1)), int),
                (all_whole, (LINE, 1), tuple), (whole_rule, (LINE, 1), tuple),
                (further_polynomial, (LINE, ((0, 1),), 2), tuple), (is_grown, (LINE, ((0, 1),), ()), bool),
                (determinants, (((1, 1),),), list), (next_least, (((1, 1), (1, 1)),), tuple)):
            self.assertIs(type(call(*right)), kind)

    def test_weightings_stay(self):
        for call, right, _ in CASES:
            for one in right:
                if isinstance(one, Weighting):
                    parts = one.masses, one.stretches
                    call(*right)
                    self.assertEqual((one.masses, one.stretches), parts)

    def test_other_objects(self):
        for weighting in (SINGLE, LINE, THREE):
            other = Weighting(tuple(list(weighting.masses)), tuple(list(weighting.stretches)))
            self.assertEqual(root_polynomial(other, 1), root_polynomial(weighting, 1))
            self.assertEqual(weightings.moved(other, 2), weightings.moved(weighting, 2))


class EdgesTest(unittest.TestCase):
    def test_one_mass(self):
        self.assertEqual(power_sum(SINGLE, 60), (5 * 3 ** 60, 1))
        self.assertEqual(weights_for(SINGLE, ((3, 1),)), ((5, 1),))
        self.assertEqual((root_polynomial(SINGLE, 0), root_polynomial(SINGLE, 1)), (((1, 1),), ((-3, 1), (1, 1))))
        self.assertEqual((steps(SINGLE, 1), root_floors(SINGLE, 1, 1)), ([((3, 1), (0, 1))], [3]))
        self.assertEqual(roots_between(SINGLE, 1, (2, 1), (3, 1)), 1)
        self.assertEqual(roots_between(SINGLE, 1, (3, 1), (4, 1)), 0)
        self.assertEqual((all_whole(SINGLE, 1), whole_rule(SINGLE, 1)), ((3,), (((3, 1),), ((5, 1),))))
        self.assertEqual(fewest_places(SINGLE, 11), 1)
        self.assertEqual(further_polynomial(SINGLE, ((0, 1),), 1), ((-3, 1), (1, 1)))
        self.assertIsNone(further_polynomial(SINGLE, ((0, 1),), 2))
        self.assertIs(is_grown(SINGLE, ((0, 1),), ((9, 3),)), True)
        self.assertEqual(determinants(tuple(power_sums(SINGLE, 9))), [(5, 1)] + [(0, 1)] * 4)
        self.assertEqual(next_least(((5, 1), (15, 1))), (45, 1))

    def test_one_stretch(self):
        self.assertEqual([power_sum(LINE, power) for power in (58, 59, 60)], [(2, 59), (0, 1), (2, 61)])
        self.assertEqual(weights_for(LINE, ((-1, 1), (0, 1), (1, 1))), ((1, 3), (4, 3), (1, 3)))
        self.assertEqual(bar(LINE, ((-1, 1), (0, 1), (1, 1))), ((0, 1), (0, 1), (-1, 1), (0, 1), (1, 1)))
        self.assertEqual(root_floors(LINE, 4, 1000), [-862, -340, 339, 861])
        self.assertEqual((all_whole(LINE, 1), all_whole(LINE, 2)), ((0,), None))
        self.assertEqual(determinants(tuple(power_sums(LINE, 5))), [(2, 1), (4, 3), (32, 135)])
        self.assertEqual(next_least(tuple(power_sums(LINE, 8))), oracle.told(oracle.untold((2, 9)) - oracle.untold(
            (128, 11025))))

    def test_three_masses(self):
        self.assertEqual(power_sums(THREE, 61)[57:], [(0, 1), (2, 1), (0, 1), (2, 1)])
        self.assertEqual(root_polynomial(THREE, 2), ((-1, 2), (0, 1), (1, 1)))
        self.assertEqual(root_polynomial(THREE, 3), ((0, 1), (-1, 1), (0, 1), (1, 1)))
        self.assertEqual(steps(THREE, 3), [((0, 1), (0, 1)), ((0, 1), (1, 2)), ((0, 1), (1, 2))])
        self.assertEqual(root_floors(THREE, 2, 10 ** 6), [-707107, 707106])
        self.assertEqual(whole_rule(THREE, 3), (((-1, 1), (0, 1), (1, 1)), ((1, 1), (2, 1), (1, 1))))
        self.assertIsNone(served(THREE, *whole_rule(THREE, 3)))
        self.assertIsNone(best_degree(THREE, ((-1, 1), (0, 1), (1, 1))))
        self.assertIsNone(first_gap(THREE, *whole_rule(THREE, 3)))
        self.assertEqual(gap(THREE, *whole_rule(THREE, 3), 30), (0, 1))
        self.assertEqual(next_least(tuple(power_sums(THREE, 6))), (2, 1))


if __name__ == "__main__":
    unittest.main()
