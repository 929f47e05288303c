"""The examples of the document's interface, word by word."""

import unittest

from fewreadings.balances import Balance
from fewreadings.errors import InvalidPlaces, InvalidSums, InvalidWeighting, NothingLeft, TooFew
from fewreadings.further import determinants, further_polynomial, is_grown, next_least
from fewreadings.misses import (cut_gap, cut_sum, false_ones, first_gap, gap, heavy_places, lacking_reading,
                                needless_places, polynomial_by, repaired, sum_by)
from fewreadings.roots import (all_whole, fewest_places, root_floors, root_polynomial, roots_between, steps,
                               whole_rule)
from fewreadings.rules import bar, best_degree, reading, served, weights_for
from fewreadings.weightings import Weighting, joined, mean, mirrored, moved, power_sums, total


class ExamplesTest(unittest.TestCase):
    def test_weightings(self):
        weighting = Weighting(((0, 2),), ((-1, 1, 3),))
        told = [power_sums(weighting, 5), total(weighting, (1, 0, 3)), mean(weighting, (1, 0, 3))]
        told = told + [moved(weighting, 2).stretches, mirrored(moved(weighting, 2)).masses]
        told = told + [joined(weighting, Weighting(((0, 1), (5, 2)), ())).masses]
        self.assertEqual(told, [[(8, 1), (0, 1), (2, 1), (0, 1), (6, 5)], (14, 1), (7, 4),
                                ((1, 3, 3),), ((-2, 2),), ((0, 3), (5, 2))])

    def test_weightings_error(self):
        with self.assertRaises(InvalidWeighting) as caught:
            Weighting(((0, 2),), ((1, 1, 3),))
        self.assertEqual((caught.exception.part, caught.exception.index), (1, 0))

    def test_rules(self):
        weighting, ends = Weighting(((0, 2),), ((-1, 1, 3),)), ((-1, 1), (1, 1))
        told = [reading(((-1, 1), (1, 2)), ((1, 2), (3, -1)), (1, 2)), weights_for(weighting, ends)]
        told = told + [best_degree(weighting, ends), bar(weighting, ends), served(weighting, ends, ((4, 1), (3, 1)))]
        single = Weighting(((3, 5),), ())
        told = told + [served(weighting, ends, ((4, 1), (4, 1))), served(single, ((3, 1),), ((5, 1),)),
                       bar(single, ((3, 1),))]
        self.assertEqual(told, [(-13, 2), ((4, 1), (4, 1)), 1, ((-1, 1), (0, 1), (1, 1)), -1, 1, None, None])

    def test_rules_error(self):
        with self.assertRaises(InvalidPlaces) as caught:
            reading(((1, 2), (2, 4)), ((1, 1), (1, 1)), (1,))
        self.assertEqual(caught.exception.index, 1)

    def test_roots(self):
        weighting = Weighting(((0, 2),), ((-1, 1, 3),))
        told = [root_polynomial(weighting, 2), steps(weighting, 2), root_floors(weighting, 2, 10)]
        told = told + [root_floors(weighting, 2, 3), roots_between(weighting, 2, (-1, 2), (1, 2))]
        self.assertEqual(told, [((-1, 4), (0, 1), (1, 1)), [((0, 1), (0, 1)), ((0, 1), (1, 4))], [-5, 5], [-2, 1], 1])

    def test_whole_roots(self):
        weighting, single = Weighting(((0, 2),), ((-1, 1, 3),)), Weighting(((3, 5),), ())
        told = [fewest_places(weighting, 3), fewest_places(single, 7), all_whole(weighting, 1)]
        told = told + [whole_rule(weighting, 1), all_whole(weighting, 2)]
        self.assertEqual(told, [2, 1, (0,), (((0, 1),), ((8, 1),)), None])

    def test_roots_error(self):
        with self.assertRaises(TooFew):
            root_polynomial(Weighting(((3, 5),), ()), 2)

    def test_further(self):
        weighting = Weighting(((0, 2),), ((-1, 1, 3),))
        told = [further_polynomial(weighting, ((0, 1),), 2), further_polynomial(weighting, ((0, 1),), 1)]
        told = told + [is_grown(weighting, ((1, 1),), ((-1, 4),)), determinants(((8, 1), (0, 1), (2, 1)))]
        told = told + [next_least(((8, 1), (0, 1), (2, 1), (0, 1)))]
        self.assertEqual(told, [((-3, 5), (0, 1), (1, 1)), None, True, [(8, 1), (16, 1)], (1, 2)])

    def test_further_error(self):
        with self.assertRaises(InvalidSums) as caught:
            next_least(((8, 1),))
        self.assertEqual(caught.exception.index, 0)

    def test_misses(self):
        line = Weighting((), ((-1, 1, 1),))
        ends, ones = ((-1, 1), (1, 1)), ((1, 1), (1, 1))
        found = [first_gap(line, ends, ones), needless_places(line, ends),
                 heavy_places(line, ((-1, 1), (0, 1), (1, 1)))]
        found = found + [polynomial_by(((0, 1), (1, 1)), ((1, 1), (3, 1))), sum_by(line, ends, ((1, 1), (4, 2)))]
        found = found + [lacking_reading(line, ends, ((1, 1), (0, 1)), 1, (5, 1))]
        self.assertEqual(found, [(2, (-4, 3)), (), (0, 1, 2), ((1, 1), (2, 1)), (3, 1), (4, 1)])

    def test_false_readings_and_cuts(self):
        line = Weighting((), ((-1, 1, 1),))
        places, readings = ((0, 1), (1, 1), (2, 1), (3, 1)), ((0, 1), (1, 1), (5, 1), (3, 1))
        found = [gap(line, ((0, 1),), ((2, 1),), 2), false_ones(places, readings, 1), repaired(places, readings, 1)]
        found = found + [cut_sum(0, 2, 2, ((0, 1),), ((2, 1),), (0, 1)), cut_gap(0, 2, 1, ((0, 1),), ((2, 1),), (0, 0, 1))]
        self.assertEqual(found, [(2, 3), (2,), ((0, 1), (1, 1), (2, 1), (3, 1)), (2, 1), (2, 3)])

    def test_balances(self):
        balance = Balance(Weighting(((0, 2),), ()))
        found = balance.apply_all([("add", 3, 1), ("lay", 0, 2, 1), ("move", -1), ("lift", -1)])
        found = [found, balance.whole_now, balance.mean_now, balance.undo(), balance.whole_now,
                 balance.weighting_now.masses]
        self.assertEqual(found, [[1, 1, (0, 1), 2], (3, 1), (2, 3), True, (5, 1), ((-1, 2), (2, 1))])

    def test_balances_error(self):
        with self.assertRaises(NothingLeft):
            Balance(Weighting(((0, 2),), ())).lift(0)


if __name__ == "__main__":
    unittest.main()
