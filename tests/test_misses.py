"""Promises 9 to 13 of the second stage: gaps, readings that are lacking or false, and stretches cut in parts."""

import unittest
from fractions import Fraction

from fewreadings.errors import (InvalidFraction, InvalidNumber, InvalidPlaces, InvalidPolynomial, InvalidReadings,
                                InvalidWeights, UnknownPlace)
from fewreadings.misses import (cut_gap, cut_sum, false_ones, first_gap, gap, heavy_places, lacking_reading,
                                needless_places, polynomial_by, repaired, sum_by)
from fewreadings.rules import reading, served, weights_for
from fewreadings.weightings import Weighting, total
from tests import oracle
from tests.test_rules import LONG, SIX, SIX_ONES, WRONG_PLACES, WRONG_WEIGHTS

LINE = Weighting((), ((-1, 1, 1),))
SINGLE = Weighting(((3, 5),), ())
PAIR = ((-1, 1), (1, 1))
ONES = ((1, 1), (1, 1))
WRONG_READINGS = (
    ((), 0),
    (((1, 1),), 1),
    (((1, 0),), 0),
    (((1, 1), (0, 0)), 1),
    (((1, 0), (1, 0)), 0),
    (((1, 1),) * 3, 2),
    (((1, 1),) * 9, 2),
    (((1, 1), (1, 0), (1, 1)), 1),
    (((1, 1), (1, 1), (1, 0)), 2),
    # A bottom of 0 comes ahead of the numbers of both.
    (((1, 1), (1, 1), (1, 1), (1, 0)), 3),
)
WRONG_CUTS = (
    (-21, 0, 1), (0, 21, 1), (0, 0, 1), (3, 2, 1), (20, 20, 1), (0, 2, 0), (0, 2, 13), (0, 2, -1), (0, 2, 1000),
    (True, 2, 1), (0, True, 1), (0, 2, True), ((0, 1), 2, 1), (0, (2, 1), 1), (0, 2, (1, 1)), (5, 4, 0),
)


class MissesTest(unittest.TestCase):
    def check_index(self, error, index, call, *arguments):
        with self.subTest(call=call.__name__, arguments=arguments):
            with self.assertRaises(error) as caught:
                call(*arguments)
            self.assertEqual(caught.exception.index, index)


class GapTest(MissesTest):
    def test_plain(self):
        self.assertEqual([gap(LINE, PAIR, ONES, power) for power in range(5)],
                         [(0, 1), (0, 1), (-4, 3), (0, 1), (-8, 5)])
        self.assertEqual(gap(SINGLE, ((3, 1),), ((5, 1),), 30), (0, 1))
        self.assertEqual(gap(SINGLE, ((2, 1),), ((1, 2),), 30), (5 * 3 ** 30 - 2 ** 29, 1))
        self.assertEqual(gap(LINE, ((0, -3),), ((-4, -2),), 0), (0, 1))

    def test_many(self):
        source = oracle.source_of(41)
        for _ in range(60):
            masses, stretches = oracle.some_weighting(source)
            places = oracle.some_places(source, masses)
            weights = oracle.some_weights(source, len(places))
            power = source.choice((0, 1, 2, 29, 30, source.randint(0, 30)))
            wanted = oracle.sum_of_power(masses, stretches, power) - oracle.rule_of_power(places, weights, power)
            self.assertEqual(gap(Weighting(masses, stretches), places, weights, power), oracle.told(wanted))

    def test_first_gap(self):
        self.assertEqual(first_gap(LINE, PAIR, ONES), (2, (-4, 3)))
        self.assertEqual(first_gap(LINE, PAIR, ((1, 1), (2, 1))), (0, (-1, 1)))
        self.assertEqual(first_gap(LINE, ((1, 1),), ((2, 1),)), (1, (-2, 1)))
        self.assertEqual(first_gap(LINE, ((0, 1),), ((2, 1),)), (2, (2, 3)))
        self.assertIsNone(first_gap(SINGLE, ((3, 1),), ((5, 1),)))
        self.assertIsNone(first_gap(SINGLE, ((1, 2), (6, 2)), ((0, 1), (10, 2))))
        masses = tuple((place, place + 1) for place in range(6))
        self.assertIsNone(first_gap(Weighting(masses, ()), SIX, tuple((mass, 1) for _, mass in masses)))

    def test_greatest_first_gap(self):
        # The three best places of these masses are told, so the gap is at twice their number.
        weighting = Weighting(((-2, 2), (-1, 17), (1, 17), (2, 2)), ())
        places = ((-7, 5), (0, 1), (7, 5))
        self.assertEqual(first_gap(weighting, places, weights_for(weighting, places))[0], 6)

    def test_many_first_gaps(self):
        source = oracle.source_of(42)
        for _ in range(80):
            masses, stretches = oracle.some_weighting(source)
            places = oracle.some_places(source, masses)
            weighting = Weighting(masses, stretches)
            weights = oracle.some_weights(source, len(places))
            if source.randint(0, 3):
                weights = weights_for(weighting, places)
            gaps = [(power, oracle.sum_of_power(masses, stretches, power) - oracle.rule_of_power(places, weights, power))
                    for power in range(30)]
            wanted = next(((power, oracle.told(number)) for power, number in gaps if number != 0), None)
            self.assertEqual(first_gap(weighting, places, weights), wanted)
            degree = served(weighting, places, weights)
            self.assertEqual(degree, None if wanted is None else wanted[0] - 1)

    def test_wrong_arguments(self):
        for places, index in WRONG_PLACES:
            for weights in (((1, 1),) * len(places), ((1, 0),)):
                self.check_index(InvalidPlaces, index, gap, LINE, places, weights, 0)
                self.check_index(InvalidPlaces, index, gap, LINE, places, weights, 31)
                self.check_index(InvalidPlaces, index, first_gap, LINE, places, weights)
        for weights, index in WRONG_WEIGHTS:
            self.check_index(InvalidWeights, index, gap, LINE, PAIR, weights, 0)
            self.check_index(InvalidWeights, index, gap, LINE, PAIR, weights, -1)
            self.check_index(InvalidWeights, index, first_gap, LINE, PAIR, weights)
        for power in (-1, 31, 32, 100, True, (1, 1)):
            with self.subTest(power=power), self.assertRaises(InvalidNumber):
                gap(LINE, PAIR, ONES, power)


class NeedlessTest(MissesTest):
    def test_plain(self):
        line = ((-1, 1), (0, 1), (1, 1))
        self.assertEqual(needless_places(LINE, line), ())
        self.assertEqual(heavy_places(LINE, line), (0, 1, 2))
        self.assertEqual(needless_places(SINGLE, ((1, 2), (3, 1), (9, 2))), (0, 2))
        self.assertEqual(heavy_places(SINGLE, ((1, 2), (3, 1), (9, 2))), (1,))
        # The weight at the middle is below 0.
        near = ((-1, 2), (0, 1), (1, 2))
        self.assertEqual(weights_for(LINE, near), ((4, 3), (-2, 3), (4, 3)))
        self.assertEqual((needless_places(LINE, near), heavy_places(LINE, near)), ((), (0, 2)))
        self.assertEqual(needless_places(LINE, ((0, 1), (1, 1))), (1,))

    def test_many(self):
        source = oracle.source_of(43)
        needless = 0
        for _ in range(80):
            masses, stretches = oracle.some_weighting(source)
            if source.randint(0, 1) and masses:
                stretches = ()
            places = oracle.some_places(source, masses)
            if not stretches and source.randint(0, 1):
                spots = {oracle.untold(place) for place in places} - {Fraction(place) for place, _ in masses}
                spots = sorted(spots)[:6 - len(masses)] + [Fraction(place) for place, _ in masses]
                places = tuple(oracle.told(spot) for spot in sorted(spots))
            weights = [oracle.untold(weight) for weight in oracle.best_weights(masses, stretches, places)]
            weighting = Weighting(masses, stretches)
            wanted = tuple(index for index, weight in enumerate(weights) if weight == 0)
            needless += len(wanted)
            self.assertEqual(needless_places(weighting, places), wanted)
            self.assertEqual(heavy_places(weighting, places),
                             tuple(index for index, weight in enumerate(weights) if weight > 0))
        self.assertGreater(needless, 10)

    def test_wrong_places(self):
        for places, index in WRONG_PLACES:
            self.check_index(InvalidPlaces, index, needless_places, LINE, places)
            self.check_index(InvalidPlaces, index, heavy_places, LINE, places)


class PolynomialByTest(MissesTest):
    def test_plain(self):
        self.assertEqual(polynomial_by(((0, 1), (1, 1)), ((1, 1), (3, 1))), ((1, 1), (2, 1)))
        self.assertEqual(polynomial_by(((1, 2),), ((4, -6),)), ((-2, 3),))
        self.assertEqual(polynomial_by(((-1, 1), (0, 1), (2, 2)), ((1, 1), (0, 1), (1, 1))), ((0, 1), (0, 1), (1, 1)))

    def test_lesser_degrees(self):
        self.assertEqual(polynomial_by(SIX, ((0, 3),) * 6), ())
        self.assertEqual(polynomial_by(SIX, ((6, -3),) * 6), ((-2, 1),))
        self.assertEqual(polynomial_by(SIX, tuple((3 * at, 3) for at in range(6))), ((0, 1), (1, 1)))

    def test_many(self):
        source = oracle.source_of(44)
        for _ in range(80):
            places = oracle.some_places(source, ())
            if source.randint(0, 1):
                readings = oracle.some_readings(source, len(places))
            else:
                polynomial = [Fraction(source.randint(-3, 3), 2) for _ in range(source.randint(0, 6))]
                readings = tuple(oracle.told(oracle.worth(polynomial, oracle.untold(place))) for place in places)
            spots, worths = [oracle.untold(place) for place in places], [oracle.untold(one) for one in readings]
            found = polynomial_by(places, readings)
            self.assertIsInstance(found, tuple)
            self.assertEqual(found, tuple(oracle.told(number) for number in oracle.through(spots, worths)))
            masses, stretches = oracle.some_weighting(source)
            wanted = oracle.sum_of_polynomial(masses, stretches, [oracle.untold(one) for one in found])
            self.assertEqual(sum_by(Weighting(masses, stretches), places, readings), oracle.told(wanted))

    def test_sums(self):
        self.assertEqual(sum_by(LINE, PAIR, ((1, 1), (4, 2))), (3, 1))
        self.assertEqual(sum_by(LINE, ((-1, 1), (0, 1), (1, 1)), ((1, 1), (0, 1), (1, 1))), (2, 3))
        self.assertEqual(sum_by(LINE, ((7, 1),), ((0, -2),)), (0, 1))
        self.assertEqual(sum_by(SINGLE, ((1, 1),), ((2, 3),)), (10, 3))

    def test_wrong_arguments(self):
        for places, index in WRONG_PLACES:
            for readings in (((1, 1),) * len(places), ((1, 0),)):
                self.check_index(InvalidPlaces, index, polynomial_by, places, readings)
                self.check_index(InvalidPlaces, index, sum_by, LINE, places, readings)
        for readings, index in WRONG_READINGS:
            self.check_index(InvalidReadings, index, polynomial_by, PAIR, readings)
            self.check_index(InvalidReadings, index, sum_by, LINE, PAIR, readings)


class LackingReadingTest(MissesTest):
    def test_plain(self):
        self.assertEqual(lacking_reading(LINE, PAIR, ((1, 1), (0, 1)), 1, (5, 1)), (4, 1))
        self.assertEqual(lacking_reading(LINE, PAIR, ((1, 1), (77, 1)), 1, (-10, -2)), (4, 1))
        self.assertEqual(lacking_reading(LINE, PAIR, ((1, 1), (77, 1)), 0, (0, 5)), (-77, 1))
        self.assertEqual(lacking_reading(SINGLE, ((2, 1),), ((1, 1),), 0, (1, 1)), (1, 5))

    def test_needless_place(self):
        # The sum is that at 3, whatever is read elsewhere: none, or all, are the lacking ones.
        places, readings = ((1, 1), (3, 1)), ((9, 1), (2, 1))
        self.assertIsNone(lacking_reading(SINGLE, places, readings, 0, (7, 1)))
        self.assertIsNone(lacking_reading(SINGLE, places, readings, 0, (10, 1)))
        self.assertEqual(lacking_reading(SINGLE, places, readings, 1, (7, 1)), (7, 5))

    def test_many(self):
        source = oracle.source_of(45)
        for _ in range(80):
            masses, stretches = oracle.some_weighting(source)
            places = oracle.some_places(source, masses)
            readings = oracle.some_readings(source, len(places))
            wanted = oracle.some_terms(source, Fraction(source.randint(-50, 50), source.randint(1, 9)))
            lacking = source.randrange(len(places))
            weighting = Weighting(masses, stretches)
            found = lacking_reading(weighting, places, readings, lacking, wanted)
            if lacking in needless_places(weighting, places):
                self.assertIsNone(found)
            else:
                put = readings[:lacking] + (found,) + readings[lacking + 1:]
                self.assertEqual(found, oracle.told(oracle.untold(found)))
                self.assertEqual(sum_by(weighting, places, put), oracle.told(oracle.untold(wanted)))

    def test_wrong_arguments(self):
        for places, index in WRONG_PLACES:
            self.check_index(InvalidPlaces, index, lacking_reading, LINE, places, ((1, 0),), -1, (1, 0))
        for readings, index in WRONG_READINGS:
            for lacking, wanted in ((0, (1, 1)), (2, (1, 0))):
                self.check_index(InvalidReadings, index, lacking_reading, LINE, PAIR, readings, lacking, wanted)
        for lacking in (-1, 2, 3, 100, -2, True, False, (0, 1)):
            for wanted in ((1, 1), (1, 0)):
                with self.subTest(lacking=lacking), self.assertRaises(UnknownPlace):
                    lacking_reading(LINE, PAIR, ONES, lacking, wanted)
        for weighting, places in ((LINE, PAIR), (SINGLE, ((1, 1), (3, 1)))):
            for wanted in ((1, 0), (0, 0)):
                with self.assertRaises(InvalidFraction):
                    lacking_reading(weighting, places, ONES, 0, wanted)


class FalseReadingsTest(MissesTest):
    def readings_of(self, polynomial):
        return [oracle.told(oracle.worth(polynomial, at)) for at in range(6)]

    def test_no_false_one(self):
        readings = tuple(self.readings_of([1, 2, 3]))
        for degree in (2, 3, 4):
            self.assertEqual(false_ones(SIX, readings, degree), (0, 1, 2, 3, 4, 5))
            self.assertEqual(repaired(SIX, readings, degree), readings)
        for degree in (0, 1):
            self.assertEqual(false_ones(SIX, readings, degree), ())
            self.assertIsNone(repaired(SIX, readings, degree))

    def test_one_false_one(self):
        for degree in range(4):
            right = self.readings_of([3, -1, 2, 5][:degree + 1])
            for at in range(6):
                wrong = list(right)
                wrong[at] = (7001, 2)
                self.assertEqual(false_ones(SIX, tuple(wrong), degree), (at,))
                self.assertEqual(repaired(SIX, tuple(wrong), degree), tuple(right))
                self.assertEqual(false_ones(SIX, tuple(wrong), 4), (0, 1, 2, 3, 4, 5))
                self.assertIsNone(repaired(SIX, tuple(wrong), 4))

    def test_two_false_ones(self):
        for degree in range(3):
            right = self.readings_of([3, -1, 2][:degree + 1])
            wrong = list(right)
            wrong[1], wrong[4] = (7001, 2), (-5003, 3)
            self.assertEqual(false_ones(SIX, tuple(wrong), degree), ())
            self.assertIsNone(repaired(SIX, tuple(wrong), degree))

    def test_one_of_two_alone(self):
        # Two readings that differ: each alone can be false, so that none is repaired.
        places, readings = ((0, 1), (1, 1)), ((1, 1), (2, 1))
        self.assertEqual(false_ones(places, readings, 0), (0, 1))
        self.assertIsNone(repaired(places, readings, 0))
        self.assertEqual(repaired(places, ((1, 1), (2, 2)), 0), ((1, 1), (1, 1)))
        self.assertEqual(repaired(places, readings, 1), readings)

    def test_few_places(self):
        for degree in range(5):
            self.assertEqual(false_ones(((1, 2),), ((4, 6),), degree), (0,))
            self.assertEqual(repaired(((1, 2),), ((4, 6),), degree), ((2, 3),))

    def test_lowest_terms(self):
        self.assertEqual(repaired(((0, 1), (1, 1)), ((4, -6), (0, -3)), 1), ((-2, 3), (0, 1)))
        self.assertEqual(repaired(((0, 1), (1, 1), (2, 1)), ((4, -6), (5, 1), (-2, 3)), 0), ((-2, 3),) * 3)

    def test_many(self):
        source = oracle.source_of(46)
        repairs = 0
        for _ in range(250):
            places = oracle.some_places(source, ())
            degree = source.randint(0, 4)
            spots = [oracle.untold(place) for place in places]
            polynomial = [Fraction(source.randint(-4, 4)) for _ in range(source.randint(0, degree + 1))]
            worths = [oracle.worth(polynomial, spot) for spot in spots]
            for _ in range(source.choice((0, 1, 1, 2))):
                worths[source.randrange(len(worths))] += source.choice((-1, 1))
            readings = tuple(oracle.some_terms(source, number) for number in worths)
            wanted = tuple(at for at in range(len(spots))
                           if len(oracle.through(spots[:at] + spots[at + 1:], worths[:at] + worths[at + 1:]))
                           <= degree + 1)
            self.assertEqual(false_ones(places, readings, degree), wanted)
            if len(oracle.through(spots, worths)) > degree + 1:
                if len(wanted) == 1 and len(spots) - 1 > degree:
                    repairs += 1
                    at = wanted[0]
                    worths[at] = oracle.worth(oracle.through(spots[:at] + spots[at + 1:],
                                                             worths[:at] + worths[at + 1:]), spots[at])
                else:
                    worths = None
            self.assertEqual(repaired(places, readings, degree),
                             None if worths is None else tuple(oracle.told(number) for number in worths))
        self.assertGreater(repairs, 20)

    def test_wrong_arguments(self):
        for call in (false_ones, repaired):
            for places, index in WRONG_PLACES:
                self.check_index(InvalidPlaces, index, call, places, ((1, 0),), 5)
            for readings, index in WRONG_READINGS:
                self.check_index(InvalidReadings, index, call, PAIR, readings, 0)
                self.check_index(InvalidReadings, index, call, PAIR, readings, -1)
            for degree in (-1, 5, 6, 100, True, (1, 1)):
                with self.subTest(degree=degree), self.assertRaises(InvalidNumber):
                    call(PAIR, ONES, degree)


class CutTest(MissesTest):
    SIMPSON = (((-1, 1), (0, 1), (1, 1)), ((1, 3), (4, 3), (1, 3)))

    def test_plain(self):
        middle = (((0, 1),), ((2, 1),))
        self.assertEqual(cut_sum(0, 2, 2, *middle, (0, 1)), (2, 1))
        self.assertEqual(cut_sum(0, 2, 2, *middle, (0, 0, 1)), (5, 2))
        self.assertEqual(cut_gap(0, 2, 2, *middle, (0, 0, 1)), (1, 6))
        self.assertEqual(cut_gap(0, 2, 1, *middle, (0, 0, 1)), (2, 3))
        # The gap of the middle for the power 2 shrinks as the square of the parts grows.
        self.assertEqual([cut_gap(0, 2, parts, *middle, (0, 0, 1)) for parts in range(1, 13)],
                         [oracle.told(Fraction(2, 3 * parts * parts)) for parts in range(1, 13)])

    def test_whole_line(self):
        places, weights = self.SIMPSON
        for polynomial in ((1, 2, 3, 4), (0, 0, 0, 0, 1), ()):
            self.assertEqual(cut_sum(-1, 1, 1, places, weights, polynomial), reading(places, weights, polynomial))
        self.assertEqual(cut_gap(-20, 20, 12, places, weights, (7, -6, 5, -4)), (0, 1))
        self.assertEqual(cut_gap(-1, 1, 1, places, weights, (0, 0, 0, 0, 1)), (-4, 15))

    def test_places_beyond_the_line(self):
        self.assertEqual(cut_sum(1, 3, 2, ((3, 1),), ((1, 1),), (0, 1)), (7, 2))
        self.assertEqual(cut_sum(1, 3, 2, ((6, -3),), ((2, 1),), (0, 1)), (2, 1))

    def test_edges_of_polynomials(self):
        self.assertEqual(cut_sum(0, 1, 12, *self.SIMPSON, ()), (0, 1))
        self.assertEqual(cut_gap(0, 1, 12, *self.SIMPSON, (0,) * 13), (0, 1))
        self.assertEqual(cut_gap(0, 1, 1, ((1, 1),), ((2, 1),), (0,) * 12 + (1,)), (-12, 13))

    def test_many(self):
        source = oracle.source_of(47)
        for _ in range(60):
            low = source.randint(-20, 19)
            high = source.randint(low + 1, 20)
            parts = source.randint(1, 12)
            places = oracle.some_places(source, ())
            weights = oracle.some_weights(source, len(places))
            polynomial = oracle.some_polynomial(source)
            half = Fraction(high - low, 2 * parts)
            wanted = Fraction(0)
            for part in range(parts):
                begin = low + part * 2 * half
                for place, weight in zip(places, weights):
                    spot = begin + half + half * oracle.untold(place)
                    wanted += half * oracle.untold(weight) * oracle.worth(polynomial, spot)
            self.assertEqual(cut_sum(low, high, parts, places, weights, polynomial), oracle.told(wanted))
            whole = oracle.untold(total(Weighting((), ((low, high, 1),)), polynomial))
            self.assertEqual(cut_gap(low, high, parts, places, weights, polynomial), oracle.told(whole - wanted))

    def test_wrong_arguments(self):
        for call in (cut_sum, cut_gap):
            for cut in WRONG_CUTS:
                for rest in ((PAIR, ONES, (1,)), ((), (), LONG), (PAIR, (), (1,)), (PAIR, ONES, LONG)):
                    with self.subTest(cut=cut), self.assertRaises(InvalidNumber):
                        call(*cut, *rest)
            for places, index in WRONG_PLACES:
                self.check_index(InvalidPlaces, index, call, 0, 2, 3, places, ((1, 0),), LONG)
                self.check_index(InvalidPlaces, index, call, 0, 2, 3, places, ((1, 1),) * len(places), (1,))
            for weights, index in WRONG_WEIGHTS:
                self.check_index(InvalidWeights, index, call, 0, 2, 3, PAIR, weights, (1,))
                self.check_index(InvalidWeights, index, call, 0, 2, 3, PAIR, weights, LONG)
            self.check_index(InvalidWeights, 6, call, 0, 2, 3, SIX, SIX_ONES + ((1, 1),), (1,))
            for polynomial in (LONG, (1,) * 20):
                with self.assertRaises(InvalidPolynomial):
                    call(0, 2, 12, PAIR, ONES, polynomial)
            call(-20, 20, 12, SIX, SIX_ONES, (1,) * 13)


if __name__ == "__main__":
    unittest.main()
