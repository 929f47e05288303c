"""Promises 3 to 5: readings of rules, which degree rules serve, the best weights, and the bar."""

import unittest

from fewreadings.errors import InvalidPlaces, InvalidPolynomial, InvalidWeights
from fewreadings.rules import bar, best_degree, reading, served, weights_for
from fewreadings.weightings import Weighting
from tests import oracle

LINE = Weighting((), ((-1, 1, 1),))
PAIR = ((-1, 1), (1, 1))
ONES = ((1, 1), (1, 1))
SIX = tuple((place, 1) for place in range(6))
SEVEN = tuple((place, 1) for place in range(7))
SIX_ONES = ((1, 1),) * 6
LONG = (0,) * 14
# The best three places of these masses are -7/5, 0 and 7/5.
LUCKY = Weighting(((-2, 2), (-1, 17), (1, 17), (2, 2)), ())
LUCKY_PLACES = ((7, -5), (0, -3), (14, 10))

WRONG_PLACES = (
    ((), 0),
    (((1, 0),), 0),
    (((0, 0),), 0),
    (((0, 1), (1, 0)), 1),
    (((0, 1), (0, 5)), 1),
    (((1, 2), (2, 4)), 1),
    (((1, 2), (-1, -2)), 1),
    (((1, 2), (1, 3)), 1),
    (((0, 1), (1, -2)), 1),
    (((-1, 2), (1, -2), (1, 0)), 1),
    (((0, 1), (1, 1), (3, 1), (5, 2)), 3),
    (SEVEN, 6),
    (SEVEN + ((0, 0),), 6),
    (SEVEN[:4] + ((4, 0),) + SEVEN[5:], 4),
    (SEVEN[:6] + ((6, 0),), 6),
)

WRONG_WEIGHTS = (
    ((), 0),
    (((1, 1),), 1),
    (((1, 0),), 0),
    (((1, 1), (0, 0)), 1),
    (((1, 0), (1, 0)), 0),
    (((1, 1), (1, 1), (1, 1)), 2),
    (((1, 1), (1, 0), (1, 0)), 1),
    (((1, 1), (1, 1), (1, 0), (1, 1)), 2),
)


class WrongArgumentsTest(unittest.TestCase):
    def check_error(self, error, index, call, *arguments):
        with self.subTest(call=call.__name__, arguments=arguments[-3:]):
            with self.assertRaises(error) as caught:
                call(*arguments)
            self.assertEqual(caught.exception.index, index)

    def test_wrong_places(self):
        for places, index in WRONG_PLACES:
            weights = ((1, 1),) * len(places)
            self.check_error(InvalidPlaces, index, reading, places, weights, (1,))
            self.check_error(InvalidPlaces, index, served, LINE, places, weights)
            self.check_error(InvalidPlaces, index, weights_for, LINE, places)
            self.check_error(InvalidPlaces, index, best_degree, LINE, places)
            self.check_error(InvalidPlaces, index, bar, LINE, places)

    def test_wrong_weights(self):
        for weights, index in WRONG_WEIGHTS:
            self.check_error(InvalidWeights, index, reading, PAIR, weights, (1,))
            self.check_error(InvalidWeights, index, served, LINE, PAIR, weights)

    def test_weights_of_six_places(self):
        self.check_error(InvalidWeights, 5, reading, SIX, SIX_ONES[:5], (1,))
        self.check_error(InvalidWeights, 6, served, LINE, SIX, SIX_ONES + ((1, 1),))

    def test_wrong_polynomials(self):
        for polynomial in (LONG, (1,) * 20):
            with self.assertRaises(InvalidPolynomial):
                reading(PAIR, ONES, polynomial)

    def test_several_wrong_at_once(self):
        self.check_error(InvalidPlaces, 0, reading, (), (), LONG)
        self.check_error(InvalidPlaces, 1, reading, ((0, 1), (0, 1)), ((1, 0),), LONG)
        self.check_error(InvalidWeights, 0, reading, PAIR, ((1, 0),), LONG)
        self.check_error(InvalidWeights, 1, reading, PAIR, ONES[:1], LONG)
        self.check_error(InvalidPlaces, 0, served, LINE, ((0, 0), (1, 1)), ((1, 0),))


class ReadingTest(unittest.TestCase):
    def test_plain(self):
        self.assertEqual(reading(((2, 1),), ((3, 1),), (1, 1, 1)), (21, 1))
        self.assertEqual(reading(((-1, 2), (1, 3)), ((1, 1), (6, 1)), (0, 0, 1)), (11, 12))

    def test_any_terms(self):
        self.assertEqual(reading(((2, -4), (-3, -9)), ((-5, -5), (-12, -2)), (0, 0, 1)), (11, 12))
        self.assertEqual(reading(((0, -7),), ((4, -6),), (3, 5)), (-2, 1))

    def test_edges_of_polynomials(self):
        for polynomial in ((), (0,), (0,) * 13):
            self.assertEqual(reading(PAIR, ONES, polynomial), (0, 1))
        self.assertEqual(reading(PAIR, ONES, (0,) * 12 + (1,)), (2, 1))
        self.assertEqual(reading(PAIR, ((5, 2), (-5, 2)), (7, 0, 0)), (0, 1))

    def test_six_places(self):
        self.assertEqual(reading(SIX, SIX_ONES, (0, 1)), (15, 1))

    def test_many(self):
        source = oracle.source_of(4)
        for _ in range(80):
            places = oracle.some_places(source, ())
            weights = oracle.some_weights(source, len(places))
            polynomial = oracle.some_polynomial(source)
            wanted = sum(coefficient * oracle.rule_of_power(places, weights, power)
                         for power, coefficient in enumerate(polynomial))
            self.assertEqual(reading(places, weights, polynomial), oracle.told(wanted))


class ServedTest(unittest.TestCase):
    def test_line(self):
        self.assertEqual(served(LINE, ((0, 1),), ((2, 1),)), 1)
        self.assertEqual(served(LINE, ((0, 1),), ((1, 1),)), -1)
        self.assertEqual(served(LINE, ((1, 2),), ((2, 1),)), 0)
        self.assertEqual(served(LINE, PAIR, ONES), 1)
        self.assertEqual(served(LINE, ((-1, 1), (0, 4), (1, 1)), ((1, 3), (-8, -6), (1, 3))), 3)

    def test_needless_weight(self):
        self.assertEqual(served(LINE, ((0, 1), (1, 1)), ((2, 1), (0, 1))), 1)

    def test_most_that_can_be_served(self):
        self.assertEqual(served(LUCKY, LUCKY_PLACES, weights_for(LUCKY, LUCKY_PLACES)), 5)

    def test_all_served(self):
        masses = tuple((place, 7) for place in range(6))
        weighting = Weighting(masses, ())
        weights = ((14, 2),) * 6
        self.assertIsNone(served(weighting, SIX, weights))
        self.assertEqual(served(weighting, SIX, weights[:5] + ((8, 1),)), -1)
        self.assertIsNone(served(Weighting(((3, 5),), ()), ((1, 1), (3, 1)), ((0, 9), (5, 1))))
        self.assertEqual(served(Weighting(((3, 5),), ()), ((1, 1), (2, 1)), ((0, 9), (5, 1))), 0)

    def test_fails_late_at_the_masses(self):
        """The weights differ by those of a difference of the order 5, which only the power 5 tells."""
        weighting = Weighting(tuple((place, 12) for place in range(6)), ())
        weights = tuple((12 + much, 1) for much in (1, -5, 10, -10, 5, -1))
        self.assertEqual(served(weighting, SIX, weights), 4)

    def test_many(self):
        source = oracle.source_of(5)
        for _ in range(80):
            masses, stretches = oracle.some_weighting(source)
            places = oracle.some_places(source, masses)
            weights = oracle.some_weights(source, len(places))
            best = oracle.best_weights(masses, stretches, places)
            weighting = Weighting(masses, stretches)
            self.assertEqual(served(weighting, places, weights),
                             oracle.served_by(masses, stretches, places, weights))
            self.assertEqual(served(weighting, places, best),
                             oracle.served_by(masses, stretches, places, best))


class BestWeightsTest(unittest.TestCase):
    def test_line(self):
        self.assertEqual(weights_for(LINE, ((0, 1),)), ((2, 1),))
        self.assertEqual(weights_for(LINE, ((-2, 2), (0, -1), (3, 3))), ((1, 3), (4, 3), (1, 3)))
        self.assertEqual(weights_for(LINE, ((1, 1), (2, 1))), ((4, 1), (-2, 1)))

    def test_needless_place(self):
        self.assertEqual(weights_for(LINE, ((0, 1), (1, 1))), ((2, 1), (0, 1)))

    def test_at_the_masses(self):
        weighting = Weighting(((-2, 3), (5, 1)), ())
        self.assertEqual(weights_for(weighting, ((-2, 1), (0, 1), (5, 1))), ((3, 1), (0, 1), (1, 1)))

    def test_best_degrees(self):
        self.assertEqual(best_degree(LINE, ((0, 1),)), 1)
        self.assertEqual(best_degree(LINE, ((1, 1),)), 0)
        self.assertEqual(best_degree(LINE, ((-1, 1), (0, 1), (1, 1))), 3)
        self.assertEqual(best_degree(LUCKY, LUCKY_PLACES), 5)
        self.assertIsNone(best_degree(Weighting(((3, 5),), ()), ((3, 1),)))
        self.assertIsNone(best_degree(Weighting(((0, 5), (3, 5)), ()), SIX))
        self.assertEqual(best_degree(Weighting(((0, 5), (7, 5)), ()), SIX), 5)

    def test_many(self):
        source = oracle.source_of(6)
        for _ in range(80):
            masses, stretches = oracle.some_weighting(source)
            places = oracle.some_places(source, masses)
            weighting = Weighting(masses, stretches)
            weights = weights_for(weighting, places)
            self.assertIsInstance(weights, tuple)
            self.assertEqual(weights, oracle.best_weights(masses, stretches, places))
            self.assertEqual(best_degree(weighting, places),
                             oracle.served_by(masses, stretches, places, weights))


class BarTest(unittest.TestCase):
    def test_line(self):
        self.assertEqual(bar(LINE, ((1, 2),)), ((-1, 2), (1, 1)))
        self.assertEqual(bar(LINE, ((0, -4),)), ((0, 1), (0, 1), (1, 1)))
        self.assertEqual(bar(LINE, ((1, -1), (0, 1), (1, 1))), ((0, 1), (0, 1), (-1, 1), (0, 1), (1, 1)))

    def test_greatest_power(self):
        nought = (0, 1)
        self.assertEqual(bar(LUCKY, LUCKY_PLACES), (nought,) * 4 + ((-49, 25), nought, (1, 1)))

    def test_at_the_masses(self):
        masses = tuple((place, place + 1) for place in range(6))
        weighting = Weighting(masses, ())
        self.assertIsNone(bar(weighting, SIX))
        for index in range(6):
            self.assertIsNotNone(bar(weighting, SIX[:index] + SIX[index + 1:]))
            self.assertIsNone(bar(Weighting((masses[index],), ()), SIX))

    def test_stretch_beside_the_masses(self):
        places = ((0, 1), (1, 1))
        self.assertIsNone(bar(Weighting(((0, 1), (1, 2)), ()), places))
        self.assertEqual(bar(Weighting(((0, 1), (1, 2)), ((0, 1, 1),)), places), ((0, 1), (-1, 1), (1, 1)))

    def test_many(self):
        source = oracle.source_of(7)
        for _ in range(80):
            masses, stretches = oracle.some_weighting(source)
            places = oracle.some_places(source, masses)
            found = bar(Weighting(masses, stretches), places)
            self.assertEqual(found, oracle.bar_of(masses, stretches, places))
            best = best_degree(Weighting(masses, stretches), places)
            self.assertEqual(best, None if found is None else len(found) - 2)

    def test_many_at_all_masses(self):
        source = oracle.source_of(8)
        for _ in range(20):
            masses, _ = oracle.some_weighting(source)
            if masses:
                places = tuple((-2 * place, -2) for place, _ in masses)
                self.assertIsNone(bar(Weighting(masses, ()), places))
                self.assertIsNone(served(Weighting(masses, ()), places, tuple((mass, 1) for _, mass in masses)))


if __name__ == "__main__":
    unittest.main()
