"""Promises 2 to 4 of the second stage: the polynomials of counts, their steps, their roots and whole rules."""

import unittest
from fractions import Fraction

from fewreadings.errors import InvalidFraction, InvalidNumber, TooFew
from fewreadings.roots import (all_whole, fewest_places, root_floors, root_polynomial, roots_between, steps,
                               whole_rule)
from fewreadings.rules import served
from fewreadings.weightings import Weighting
from tests import oracle

LINE = Weighting((), ((-1, 1, 1),))
SINGLE = Weighting(((3, 5),), ())
THREE = Weighting(((-2, 1), (0, 4), (5, 2)), ())
SIX_MASSES = ((-20, 1), (-3, 2), (0, 3), (4, 4), (7, 5), (20, 6))
SIX = Weighting(SIX_MASSES, ())
FINEST = 10 ** 6
WRONG_COUNTS = (-1, 7, 8, 100, True, False, (1, 1))


def many(seed, times):
    source = oracle.source_of(seed)
    for _ in range(times):
        count = source.randint(0, 6)
        masses, stretches = oracle.some_strong_weighting(source, count)
        yield source, count, masses, stretches


def untold(polynomial):
    return [oracle.untold(coefficient) for coefficient in polynomial]


class RootPolynomialTest(unittest.TestCase):
    def test_line(self):
        nought = (0, 1)
        self.assertEqual(root_polynomial(LINE, 0), ((1, 1),))
        self.assertEqual(root_polynomial(LINE, 1), (nought, (1, 1)))
        self.assertEqual(root_polynomial(LINE, 2), ((-1, 3), nought, (1, 1)))
        self.assertEqual(root_polynomial(LINE, 3), (nought, (-3, 5), nought, (1, 1)))
        self.assertEqual(root_polynomial(LINE, 6),
                         ((-5, 231), nought, (5, 11), nought, (-15, 11), nought, (1, 1)))

    def test_masses(self):
        self.assertEqual(root_polynomial(SINGLE, 1), ((-3, 1), (1, 1)))
        self.assertEqual(root_polynomial(THREE, 3), ((0, 1), (-10, 1), (-3, 1), (1, 1)))
        self.assertEqual(root_polynomial(SIX, 6),
                         tuple(oracle.told(number) for number in
                               oracle.product_of_roots([place for place, _ in SIX_MASSES])))

    def test_many_by_equations(self):
        for _, count, masses, stretches in many(21, 60):
            found = root_polynomial(Weighting(masses, stretches), count)
            self.assertIsInstance(found, tuple)
            self.assertEqual(found, oracle.grown_polynomial(masses, stretches, [], count))

    def test_many_by_products(self):
        for source, count, masses, stretches in many(22, 40):
            found = untold(root_polynomial(Weighting(masses, stretches), count))
            self.assertEqual((len(found), found[-1]), (count + 1, 1))
            for power in range(count):
                other = [Fraction(0)] * power + [Fraction(1)]
                self.assertEqual(oracle.sum_of_polynomial(masses, stretches, oracle.multiplied(found, other)), 0)

    def test_too_few(self):
        for call in (root_polynomial, steps):
            for weighting, most in ((SINGLE, 1), (THREE, 3)):
                self.assertIsNotNone(call(weighting, most))
                for count in range(most + 1, 7):
                    with self.assertRaises(TooFew):
                        call(weighting, count)
            # A stretch beside the masses, or two of them, are enough for any count.
            for masses, stretches in ((((3, 5),), ((0, 1, 1),)), ((), ((0, 1, 1), (5, 6, 1)))):
                for count in range(7):
                    call(Weighting(masses, stretches), count)

    def test_wrong_counts(self):
        for call in (root_polynomial, steps):
            for count in WRONG_COUNTS:
                for weighting in (LINE, SINGLE, SIX):
                    with self.subTest(call=call.__name__, count=count), self.assertRaises(InvalidNumber):
                        call(weighting, count)


class StepsTest(unittest.TestCase):
    def test_line(self):
        nought = (0, 1)
        self.assertEqual(steps(LINE, 0), [])
        self.assertEqual(steps(LINE, 6), [(nought, nought), (nought, (1, 3)), (nought, (4, 15)), (nought, (9, 35)),
                                          (nought, (16, 63)), (nought, (25, 99))])

    def test_masses(self):
        self.assertEqual(steps(SINGLE, 1), [((3, 1), (0, 1))])
        self.assertEqual(steps(Weighting(((0, 1), (1, 1)), ()), 2), [((1, 2), (0, 1)), ((1, 2), (1, 4))])

    def test_many(self):
        for _, count, masses, stretches in many(23, 40):
            weighting = Weighting(masses, stretches)
            found = steps(weighting, count)
            self.assertIsInstance(found, list)
            self.assertEqual(len(found), count)
            for at, (shift, scale) in enumerate(found):
                self.assertEqual(oracle.told(oracle.untold(shift)), shift)
                present = untold(root_polynomial(weighting, at))
                made = oracle.multiplied([-oracle.untold(shift), Fraction(1)], present)
                if at == 0:
                    self.assertEqual(scale, (0, 1))
                else:
                    self.assertGreater(scale[0], 0)
                    for power, number in enumerate(untold(root_polynomial(weighting, at - 1))):
                        made[power] -= oracle.untold(scale) * number
                self.assertEqual(made, untold(root_polynomial(weighting, at + 1)))


class RootFloorsTest(unittest.TestCase):
    def test_line(self):
        self.assertEqual(root_floors(LINE, 0, 1), [])
        self.assertEqual(root_floors(LINE, 1, 1), [0])
        self.assertEqual(root_floors(LINE, 2, 1), [-1, 0])
        self.assertEqual(root_floors(LINE, 2, FINEST), [-577351, 577350])
        self.assertEqual(root_floors(LINE, 3, FINEST), [-774597, 0, 774596])
        self.assertEqual(root_floors(LINE, 5, FINEST), [-906180, -538470, 0, 538469, 906179])
        self.assertEqual(root_floors(LINE, 6, FINEST), [-932470, -661210, -238620, 238619, 661209, 932469])

    def test_at_the_masses(self):
        places = [place for place, _ in SIX_MASSES]
        for scale in (1, 2, 7, FINEST):
            self.assertEqual(root_floors(SIX, 6, scale), [scale * place for place in places])
        self.assertEqual(root_floors(SINGLE, 1, FINEST), [3 * FINEST])

    def test_at_both_ends(self):
        for place in (-20, 20):
            self.assertEqual(root_floors(Weighting(((place, 1),), ()), 1, FINEST), [place * FINEST])
        weighting = Weighting(((20, 20),), ((19, 20, 1),))
        self.assertEqual(root_floors(weighting, 1, 1), [19])

    def test_roots_that_are_fractions(self):
        # The best two places are -1/2 and 1/2.
        weighting = Weighting(((0, 2),), ((-1, 1, 3),))
        self.assertEqual([root_floors(weighting, 2, scale) for scale in (1, 2, 3, 4)],
                         [[-1, 0], [-1, 1], [-2, 1], [-2, 2]])

    def test_many(self):
        for source, count, masses, stretches in many(24, 50):
            scale = source.choice((1, 2, 3, 10, 999, FINEST))
            weighting = Weighting(masses, stretches)
            floors = root_floors(weighting, count, scale)
            self.assertIsInstance(floors, list)
            self.assertEqual(len(floors), count)
            self.assertEqual(floors, sorted(floors))
            polynomial = untold(root_polynomial(weighting, count))
            for floor in floors:
                low, high = Fraction(floor, scale), Fraction(floor + 1, scale)
                inside = oracle.roots_in(polynomial, low, high)
                inside += (oracle.worth(polynomial, low) == 0) - (oracle.worth(polynomial, high) == 0)
                self.assertEqual(inside, floors.count(floor))

    def test_wrong_numbers(self):
        for count in WRONG_COUNTS:
            with self.subTest(count=count), self.assertRaises(InvalidNumber):
                root_floors(LINE, count, 1)
        for scale in (0, -1, FINEST + 1, 10 ** 9, True, (1, 1)):
            with self.subTest(scale=scale), self.assertRaises(InvalidNumber):
                root_floors(LINE, 2, scale)
            with self.subTest(scale=scale), self.assertRaises(TooFew):
                root_floors(SINGLE, 2, scale)
        with self.assertRaises(TooFew):
            root_floors(THREE, 4, 1)


class RootsBetweenTest(unittest.TestCase):
    def test_ends_at_roots(self):
        places = ((-2, 1), (0, 1), (5, 1))
        for low in range(3):
            for high in range(3):
                self.assertEqual(roots_between(THREE, 3, places[low], places[high]), max(0, high - low))
        self.assertEqual(roots_between(THREE, 3, (-21, 10), (0, 1)), 2)
        self.assertEqual(roots_between(THREE, 3, (-2, 1), (499, 100)), 1)
        self.assertEqual(roots_between(THREE, 3, (-100, 1), (100, 1)), 3)

    def test_ends_at_roots_of_lesser_counts(self):
        self.assertEqual(roots_between(LINE, 2, (0, 1), (1, 1)), 1)
        self.assertEqual(roots_between(LINE, 2, (-1, 1), (0, 1)), 1)
        self.assertEqual(roots_between(LINE, 3, (-1, 1), (0, 1)), 2)
        self.assertEqual(roots_between(LINE, 3, (0, 1), (1, 1)), 1)
        self.assertEqual(roots_between(LINE, 6, (0, 1), (1, 1)), 3)

    def test_any_terms(self):
        self.assertEqual(roots_between(THREE, 3, (4, -2), (-10, -2)), 2)
        self.assertEqual(roots_between(THREE, 3, (-2, -1), (5, -1)), 0)
        self.assertEqual(roots_between(THREE, 3, (5, -2), (0, -7)), 2)

    def test_none_between(self):
        self.assertEqual(roots_between(THREE, 3, (5, 1), (-2, 1)), 0)
        self.assertEqual(roots_between(THREE, 3, (0, 1), (0, 3)), 0)
        self.assertEqual(roots_between(THREE, 0, (-9, 1), (9, 1)), 0)

    def test_many(self):
        for source, count, masses, stretches in many(25, 60):
            weighting = Weighting(masses, stretches)
            polynomial = untold(root_polynomial(weighting, count))
            spots = [Fraction(source.randint(-60, 60), source.randint(1, 3)) for _ in range(4)]
            spots += [Fraction(place) for place, _ in masses]
            for _ in range(6):
                low, high = source.choice(spots), source.choice(spots)
                found = roots_between(weighting, count, oracle.some_terms(source, low),
                                      oracle.some_terms(source, high))
                self.assertEqual(found, oracle.roots_in(polynomial, low, high))

    def test_wrong_fractions(self):
        for low, high in (((1, 0), (2, 1)), ((2, 1), (1, 0)), ((0, 0), (0, 0)), ((5, 1), (0, 0))):
            with self.subTest(low=low, high=high):
                with self.assertRaises(InvalidFraction):
                    roots_between(LINE, 2, low, high)
                with self.assertRaises(InvalidNumber):
                    roots_between(LINE, 7, low, high)
                with self.assertRaises(TooFew):
                    roots_between(THREE, 4, low, high)


class FewestPlacesTest(unittest.TestCase):
    def test_stretches(self):
        for masses in ((), ((0, 1),)):
            weighting = Weighting(masses, ((-1, 1, 1),))
            self.assertEqual([fewest_places(weighting, degree) for degree in range(12)],
                             [1, 1, 2, 2, 3, 3, 4, 4, 5, 5, 6, 6])

    def test_masses(self):
        self.assertEqual([fewest_places(THREE, degree) for degree in range(12)], [1, 1, 2, 2] + [3] * 8)
        self.assertEqual([fewest_places(SINGLE, degree) for degree in range(12)], [1] * 12)
        self.assertEqual([fewest_places(SIX, degree) for degree in (9, 10, 11)], [5, 6, 6])

    def test_wrong_degrees(self):
        for degree in (-1, 12, 13, 100, True, (3, 1)):
            with self.subTest(degree=degree), self.assertRaises(InvalidNumber):
                fewest_places(SINGLE, degree)


class WholeRuleTest(unittest.TestCase):
    # The mean of the power 2 is 16.
    PAIR = Weighting(((-5, 7), (-3, 9), (3, 9), (5, 7)), ())

    def test_found(self):
        even = Weighting(((-4, 9), (4, 9)), ())
        self.assertEqual(all_whole(even, 1), (0,))
        self.assertEqual(whole_rule(even, 1), (((0, 1),), ((18, 1),)))
        self.assertEqual(all_whole(even, 2), (-4, 4))
        self.assertEqual(whole_rule(even, 2), (((-4, 1), (4, 1)), ((9, 1), (9, 1))))
        self.assertEqual(whole_rule(SIX, 6), (tuple((place, 1) for place, _ in SIX_MASSES),
                                              tuple((mass, 1) for _, mass in SIX_MASSES)))
        self.assertEqual(whole_rule(self.PAIR, 2), (((-4, 1), (4, 1)), ((16, 1), (16, 1))))
        self.assertEqual(all_whole(Weighting(((0, 4),), ((-6, 6, 1),)), 2), (-3, 3))

    def test_not_found(self):
        self.assertIsNone(all_whole(LINE, 2))
        self.assertIsNone(whole_rule(LINE, 2))
        # One root of three is an integer, and another one has the same floor.
        self.assertIsNone(all_whole(LINE, 3))
        self.assertIsNone(whole_rule(LINE, 3))
        self.assertIsNone(all_whole(Weighting((), ((0, 1, 1),)), 1))

    def test_many(self):
        found = 0
        source = oracle.source_of(26)
        for _ in range(150):
            half = source.randint(1, 10)
            middle = source.randint(-10, 10)
            weighting = Weighting(tuple(sorted({middle - half: source.randint(1, 3), middle + half: source.randint(1, 3),
                                                middle: source.randint(1, 5)}.items())), ())
            count = source.randint(1, 3)
            polynomial = untold(root_polynomial(weighting, count))
            whole = tuple(number for number in range(-20, 21) if oracle.worth(polynomial, number) == 0)
            if len(whole) < count:
                self.assertIsNone(all_whole(weighting, count))
                self.assertIsNone(whole_rule(weighting, count))
            else:
                found += 1
                self.assertEqual(all_whole(weighting, count), whole)
                places, weights = whole_rule(weighting, count)
                self.assertEqual(places, tuple((number, 1) for number in whole))
                self.assertIn(served(weighting, places, weights),
                              (None,) if count == 3 else tuple(range(2 * count - 1, 40)))
        self.assertGreater(found, 60)

    def test_served(self):
        for count in (1, 2):
            places, weights = whole_rule(self.PAIR, count)
            self.assertEqual(served(self.PAIR, places, weights), 2 * count - 1)
        for weighting, count in ((self.PAIR, 4), (SIX, 6)):
            places, weights = whole_rule(weighting, count)
            self.assertIsNone(served(weighting, places, weights))

    def test_wrong_counts(self):
        for call in (all_whole, whole_rule):
            for count in (*WRONG_COUNTS, 0):
                for weighting in (SINGLE, LINE):
                    with self.subTest(call=call.__name__, count=count), self.assertRaises(InvalidNumber):
                        call(weighting, count)
            for count in range(2, 7):
                with self.assertRaises(TooFew):
                    call(SINGLE, count)


if __name__ == "__main__":
    unittest.main()
