"""Promises 5 and 6 of the second stage: further places beside told ones, determinants and the next least sum."""

import unittest
from fractions import Fraction

from fewreadings.errors import InvalidNumber, InvalidPlaces, InvalidSums, NoWeighting
from fewreadings.further import determinants, further_polynomial, is_grown, next_least
from fewreadings.rules import served, weights_for
from fewreadings.roots import root_polynomial
from fewreadings.weightings import Weighting, power_sums
from tests import oracle
from tests.test_rules import WRONG_PLACES

LINE = Weighting((), ((-1, 1, 1),))
SINGLE = Weighting(((3, 5),), ())
THREE = Weighting(((-2, 1), (0, 4), (5, 2)), ())
WRONG_SUMS = (
    ((), 0),
    (((1, 0),), 0),
    (((1, 1), (0, 0)), 1),
    (((1, 0), (1, 1), (1, 0)), 0),
    (((1, 1),) * 10, 9),
    (((1, 1),) * 9 + ((1, 0),), 9),
    (((1, 1),) * 8 + ((1, 0), (1, 1)), 8),
    (((1, 1),) * 12, 9),
    (((1, 1),) * 10 + ((1, 0),), 9),
)


class FurtherPolynomialTest(unittest.TestCase):
    def test_line(self):
        self.assertEqual(further_polynomial(LINE, ((0, 1),), 2), ((-3, 5), (0, 1), (1, 1)))
        # With both ends: the places of the rules that carry Lobatto's name.
        ends = ((-1, 1), (1, 1))
        self.assertEqual(further_polynomial(LINE, ends, 1), ((0, 1), (1, 1)))
        self.assertEqual(further_polynomial(LINE, ends, 2), ((-1, 5), (0, 1), (1, 1)))
        self.assertEqual(further_polynomial(LINE, ends, 3), ((0, 1), (-3, 7), (0, 1), (1, 1)))
        self.assertEqual(further_polynomial(LINE, ends, 4), ((1, 21), (0, 1), (-2, 3), (0, 1), (1, 1)))
        # With one end: those of Radau's.
        self.assertEqual(further_polynomial(LINE, ((-3, 3),), 1), ((-1, 3), (1, 1)))

    def test_no_further_ones(self):
        for weighting, told in ((LINE, ((0, 1),)), (SINGLE, ((3, 1),)), (SINGLE, ((1, 2), (5, 2)))):
            self.assertEqual(further_polynomial(weighting, told, 0), ((1, 1),))

    def test_none(self):
        self.assertIsNone(further_polynomial(LINE, ((0, 1),), 1))
        self.assertIsNone(further_polynomial(LINE, ((-1, 2), (0, 1), (1, 2)), 1))
        self.assertIsNone(further_polynomial(LINE, ((0, 1),), 3))

    def test_more_than_one(self):
        # All masses lie at told places, so that each polynomial has the sum 0 beside them.
        for count in range(1, 5):
            self.assertIsNone(further_polynomial(SINGLE, ((3, 1),), count))
            self.assertIsNone(further_polynomial(THREE, ((-4, 2), (0, -1), (5, 1)), count))

    def test_masses_at_told_places(self):
        # Two masses that are not told are left for one further place, and for two.
        self.assertEqual(further_polynomial(THREE, ((0, 1),), 2), ((-10, 1), (-3, 1), (1, 1)))
        self.assertEqual(further_polynomial(THREE, ((0, 1), (5, 1)), 1), ((2, 1), (1, 1)))
        self.assertIsNone(further_polynomial(THREE, ((0, 1), (5, 1)), 2))

    def test_root_at_a_told_place(self):
        weighting, told = Weighting(((-1, 2), (2, 1)), ()), ((0, 1), (1, 1))
        self.assertEqual(further_polynomial(weighting, told, 1), ((0, 1), (1, 1)))
        with self.assertRaises(InvalidPlaces) as caught:
            is_grown(weighting, told, ((0, 1),))
        self.assertEqual(caught.exception.index, 0)

    def test_polynomial_without_roots(self):
        self.assertEqual(further_polynomial(LINE, ((-2, 3), (2, 3)), 2), ((7, 15), (0, 1), (1, 1)))

    def test_many(self):
        source = oracle.source_of(31)
        found = {True: 0, False: 0}
        for _ in range(120):
            masses, stretches = oracle.some_weighting(source)
            if source.randint(0, 2) == 0:
                stretches = ()
                masses = masses or ((4, 2),)
            told = oracle.some_places(source, masses)
            count = source.randint(0, 4)
            wanted = oracle.grown_polynomial(masses, stretches, [oracle.untold(place) for place in told], count)
            self.assertEqual(further_polynomial(Weighting(masses, stretches), told, count), wanted)
            found[wanted is None] += 1
        self.assertGreater(min(found.values()), 10)

    def test_wrong_arguments(self):
        for places, index in WRONG_PLACES:
            for count in (0, 1, 7):
                with self.subTest(places=places), self.assertRaises(InvalidPlaces) as caught:
                    further_polynomial(LINE, places, count)
                self.assertEqual(caught.exception.index, index)
        for count in (-1, 5, 6, 100, True, (1, 1)):
            with self.subTest(count=count), self.assertRaises(InvalidNumber):
                further_polynomial(SINGLE, ((3, 1),), count)


class IsGrownTest(unittest.TestCase):
    def check_error(self, told, further, index):
        with self.subTest(told=told, further=further):
            with self.assertRaises(InvalidPlaces) as caught:
                is_grown(LINE, told, further)
            self.assertEqual(caught.exception.index, index)

    def test_found(self):
        self.assertIs(is_grown(LINE, ((-1, 1),), ((1, 3),)), True)
        self.assertIs(is_grown(LINE, ((-1, 1),), ((-2, -6),)), True)
        self.assertIs(is_grown(LINE, ((-1, 1),), ((1, 2),)), False)
        self.assertIs(is_grown(THREE, ((0, 1),), ((-2, 1), (5, 1))), True)
        self.assertIs(is_grown(THREE, ((0, 1),), ((-2, 1), (4, 1))), False)
        self.assertIs(is_grown(THREE, ((0, 1),), ((-3, 1), (5, 1))), False)

    def test_some_of_the_roots(self):
        # The polynomial is that of as many places as there are, so that one of two roots is none.
        self.assertIs(is_grown(THREE, ((0, 1),), ((5, 1),)), False)

    def test_no_further_ones(self):
        for weighting in (LINE, SINGLE):
            self.assertIs(is_grown(weighting, ((3, 1),), ()), True)

    def test_no_polynomial(self):
        self.assertIs(is_grown(LINE, ((0, 1),), ((1, 1),)), False)
        self.assertIs(is_grown(SINGLE, ((3, 1),), ((1, 1),)), False)

    def test_four(self):
        masses = tuple((place, place + 6) for place in (-4, -1, 0, 2, 7))
        weighting = Weighting(masses, ())
        for told in range(5):
            places = [(place, 1) for place, _ in masses]
            own = places.pop(told)
            self.assertIs(is_grown(weighting, (own,), tuple(places)), True)
            self.assertIs(is_grown(weighting, (own,), (*places[:3], (15, 1))), False)

    def test_served(self):
        told, further = ((-1, 1),), ((1, 3),)
        places = told + further
        self.assertEqual(served(LINE, places, weights_for(LINE, places)), 2)

    def test_wrong_told_places(self):
        for places, index in WRONG_PLACES:
            self.check_error(places, ((1, 0),), index)

    def test_wrong_further_places(self):
        for places, index in WRONG_PLACES:
            if 1 <= len(places) <= 4:
                self.check_error(((50, 1),), places, index)
        five = tuple((place, 1) for place in range(5))
        self.check_error(((50, 1),), five, 4)
        self.check_error(((50, 1),), five[:4] + ((1, 0),), 4)
        self.check_error(((50, 1),), five + ((1, 0),), 4)
        self.check_error(((50, 1),), five[:3] + ((2, 1), (9, 1)), 3)
        is_grown(LINE, ((50, 1),), five[:4])

    def test_further_places_that_are_told(self):
        told = ((0, 1), (1, 2), (3, 1))
        self.check_error(told, ((0, 5),), 0)
        self.check_error(told, ((-1, 1), (2, 4)), 1)
        self.check_error(told, ((-1, 1), (1, 3), (9, 3), (4, 1)), 2)
        self.check_error(told, ((0, 1), (1, 2)), 0)
        # All that is wrong by itself comes first.
        self.check_error(told, ((0, 1), (0, 1)), 1)
        self.check_error(told, ((0, 1), (1, 1), (2, 1), (4, 0)), 3)
        self.check_error(told, ((0, 1), (1, 1), (2, 1), (4, 1), (5, 1)), 4)


class DeterminantsTest(unittest.TestCase):
    def test_plain(self):
        self.assertEqual(determinants(((8, 1),)), [(8, 1)])
        self.assertEqual(determinants(((8, 1), (5, 7))), [(8, 1)])
        self.assertEqual(determinants(((1, 1), (2, 1), (3, 1))), [(1, 1), (-1, 1)])
        self.assertEqual(determinants(((0, 1), (1, 1), (0, 1), (1, 1), (0, 1))), [(0, 1), (-1, 1), (0, 1)])

    def test_any_terms(self):
        self.assertEqual(determinants(((-4, -6), (0, -3), (6, 4))), [(2, 3), (1, 1)])

    def test_numbers_of_sums(self):
        for count in range(1, 10):
            found = determinants(((1, 1),) * count)
            self.assertIsInstance(found, list)
            self.assertEqual(found, [(1, 1)] + [(0, 1)] * ((count + 1) // 2 - 1))

    def test_many(self):
        source = oracle.source_of(32)
        for _ in range(60):
            sums = oracle.some_readings(source, source.randint(1, 9))
            numbers = [oracle.untold(one) for one in sums]
            wanted = [oracle.told(oracle.determinant([numbers[row:row + size] for row in range(size)]))
                      for size in range(1, (len(sums) + 1) // 2 + 1)]
            self.assertEqual(determinants(sums), wanted)

    def test_weightings(self):
        source = oracle.source_of(33)
        for _ in range(40):
            masses, stretches = oracle.some_weighting(source)
            found = determinants(tuple(power_sums(Weighting(masses, stretches), 9)))
            for size, (top, _) in enumerate(found, 1):
                # Above 0 for each size unless there are fewer masses, and no stretch.
                self.assertEqual(top > 0, bool(stretches) or len(masses) >= size)
                self.assertGreaterEqual(top, 0)

    def test_wrong_sums(self):
        for sums, index in WRONG_SUMS:
            with self.subTest(sums=sums), self.assertRaises(InvalidSums) as caught:
                determinants(sums)
            self.assertEqual(caught.exception.index, index)


class NextLeastTest(unittest.TestCase):
    def check_error(self, sums, index):
        with self.subTest(sums=sums), self.assertRaises(InvalidSums) as caught:
            next_least(sums)
        self.assertEqual(caught.exception.index, index)

    def test_plain(self):
        self.assertEqual(next_least(((4, 1), (6, 1))), (9, 1))
        self.assertEqual(next_least(((-4, -2), (-3, 3))), (1, 2))
        self.assertEqual(next_least(((2, 1), (0, 1), (2, 1), (0, 1))), (2, 1))
        self.assertEqual(next_least(((2, 1), (0, 1), (2, 3), (0, 1))), (2, 9))

    def test_weightings(self):
        source = oracle.source_of(34)
        for _ in range(80):
            count = source.randint(1, 4)
            masses, stretches = oracle.some_strong_weighting(source, count)
            sums = power_sums(Weighting(masses, stretches), 2 * count + 1)
            least = oracle.untold(next_least(tuple(sums[:-1])))
            if not stretches and len(masses) == count:
                self.assertEqual(least, oracle.untold(sums[-1]))
            else:
                # What lies above the least one is the sum of the square of the polynomial of the count.
                polynomial = [oracle.untold(one) for one in root_polynomial(Weighting(masses, stretches), count)]
                square = oracle.multiplied(polynomial, polynomial)
                self.assertEqual(oracle.untold(sums[-1]) - least, oracle.sum_of_polynomial(masses, stretches, square))
                self.assertLess(least, oracle.untold(sums[-1]))
            self.assertEqual(determinants((*sums[:-1], oracle.told(least)))[-1], (0, 1))

    def test_many(self):
        source = oracle.source_of(35)
        answers = 0
        for _ in range(300):
            count = source.randint(1, 4)
            sums = list(oracle.some_readings(source, 2 * count))
            for power in range(0, 2 * count, 2):
                if source.randint(0, 3):
                    sums[power] = (abs(sums[power][0]) * 20 ** power, abs(sums[power][1]))
            numbers = [oracle.untold(one) for one in sums]
            lesser = [oracle.determinant([numbers[row:row + size] for row in range(size)])
                      for size in range(1, count + 1)]
            if min(lesser) <= 0:
                with self.assertRaises(NoWeighting):
                    next_least(tuple(sums))
            else:
                answers += 1
                numbers.append(Fraction(*next_least(tuple(sums))))
                self.assertEqual(oracle.determinant([numbers[row:row + count + 1] for row in range(count + 1)]), 0)
        self.assertGreater(answers, 50)

    def test_no_weighting(self):
        for sums in (((0, 1), (0, 1)), ((-1, 1), (0, 1)), ((1, -1), (0, 1)), ((1, 1), (1, 1), (1, 1), (1, 1)),
                     ((1, 1), (2, 1), (3, 1), (1, 1)), ((-1, 1), (0, 1), (-1, 1), (0, 1)),
                     tuple(power_sums(THREE, 8))):
            with self.subTest(sums=sums), self.assertRaises(NoWeighting):
                next_least(sums)

    def test_wrong_sums(self):
        for sums, index in WRONG_SUMS:
            if index > 0 or len(sums) != 1:
                self.check_error(sums, index)

    def test_odd_numbers(self):
        for count in (1, 3, 5, 7, 9):
            self.check_error(((1, 1),) * count, count - 1)
            self.check_error(((0, 1),) * count, count - 1)
        self.check_error(((1, 1), (1, 0), (1, 1)), 1)
        self.check_error(((1, 1), (1, 1), (1, 0)), 2)
        self.check_error(((-1, 1), (1, 0)), 1)


if __name__ == "__main__":
    unittest.main()
