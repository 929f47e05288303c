"""The examples of the document's interface, word by word."""

import unittest

from fewreadings.errors import InvalidPlaces, InvalidWeighting
from fewreadings.rules import bar, best_degree, reading, served, weights_for
from fewreadings.weightings import Weighting, joined, mean, mirrored, moved, power_sums, total


class ExamplesTest(unittest.TestCase):
    def test_weightings(self):
        weighting = Weighting(((0, 2),), ((-1, 1, 3),))
        told = [power_sums(weighting, 5), total(weighting, (1, 0, 3)), mean(weighting, (1, 0, 3))]
        told = told + [moved(weighting, 2).stretches, mirrored(moved(weighting, 2)).masses]
        told = told + [joined(weighting, Weighting(((0, 1), (5, 2)), ())).masses]
        self.assertEqual(told, [[(8, 1), (0, 1), (2, 1), (0, 1), (6, 5)], (14, 1), (7, 4),
                                ((1, 3, 3),), ((-2, 2),), ((0, 3), (5, 2))])

    def test_weightings_error(self):
        with self.assertRaises(InvalidWeighting) as caught:
            Weighting(((0, 2),), ((1, 1, 3),))
        self.assertEqual((caught.exception.part, caught.exception.index), (1, 0))

    def test_rules(self):
        weighting, ends = Weighting(((0, 2),), ((-1, 1, 3),)), ((-1, 1), (1, 1))
        told = [reading(((-1, 1), (1, 2)), ((1, 2), (3, -1)), (1, 2)), weights_for(weighting, ends)]
        told = told + [best_degree(weighting, ends), bar(weighting, ends), served(weighting, ends, ((4, 1), (3, 1)))]
        single = Weighting(((3, 5),), ())
        told = told + [served(weighting, ends, ((4, 1), (4, 1))), served(single, ((3, 1),), ((5, 1),)),
                       bar(single, ((3, 1),))]
        self.assertEqual(told, [(-13, 2), ((4, 1), (4, 1)), 1, ((-1, 1), (0, 1), (1, 1)), -1, 1, None, None])

    def test_rules_error(self):
        with self.assertRaises(InvalidPlaces) as caught:
            reading(((1, 2), (2, 4)), ((1, 1), (1, 1)), (1,))
        self.assertEqual(caught.exception.index, 1)


if __name__ == "__main__":
    unittest.main()
