"""Promises 1 and 2: weightings, their sums, and what becomes of them."""

import unittest
from fractions import Fraction

from fewreadings.errors import InvalidNumber, InvalidPolynomial, InvalidWeighting
from fewreadings.weightings import (Weighting, joined, mean, mirrored, moved, power_sum, power_sums,
                                    total)
from tests import oracle

SIX = ((-20, 1), (-3, 20), (0, 2), (1, 5), (7, 3), (20, 20))
FOUR = ((-20, -5, 1), (-5, 0, 20), (2, 3, 4), (19, 20, 7))


class WeightingTest(unittest.TestCase):
    def check_error(self, masses, stretches, part, index):
        with self.subTest(masses=masses, stretches=stretches):
            with self.assertRaises(InvalidWeighting) as caught:
                Weighting(masses, stretches)
            self.assertEqual((caught.exception.part, caught.exception.index), (part, index))

    def test_parts(self):
        for masses, stretches in ((SIX, FOUR), (SIX, ()), ((), FOUR), (((0, 1),), ((0, 1, 1),))):
            weighting = Weighting(masses, stretches)
            self.assertEqual((weighting.masses, weighting.stretches), (masses, stretches))
            self.assertIsInstance(weighting.masses, tuple)
            self.assertIsInstance(weighting.stretches, tuple)

    def test_wrong_masses(self):
        self.check_error(((-21, 1),), (), 0, 0)
        self.check_error(((0, 1), (21, 1)), (), 0, 1)
        self.check_error(((0, 0),), (), 0, 0)
        self.check_error(((0, 1), (1, 1), (2, 21)), (), 0, 2)
        self.check_error(((0, 1), (1, -1)), (), 0, 1)
        self.check_error(((True, 1),), (), 0, 0)
        self.check_error(((1, True),), (), 0, 0)
        self.check_error(((0, 1), ((3, 2), 1)), (), 0, 1)
        self.check_error(((0, (3, 2)),), (), 0, 0)

    def test_masses_that_do_not_ascend(self):
        self.check_error(((0, 1), (0, 2)), (), 0, 1)
        self.check_error(((-1, 1), (3, 1), (2, 1)), (), 0, 2)
        self.check_error(((5, 1), (4, 1), (3, 21)), (), 0, 1)

    def test_seventh_mass(self):
        seven = tuple((place, 1) for place in range(7))
        self.check_error(seven, (), 0, 6)
        self.check_error(seven + ((99, 99),), (), 0, 6)
        self.check_error(seven[:3] + ((3, 0),) + seven[4:], (), 0, 3)
        self.check_error(seven[:6] + ((0, 1),), (), 0, 6)

    def test_wrong_stretches(self):
        self.check_error((), ((-21, 0, 1),), 1, 0)
        self.check_error((), ((0, 21, 1),), 1, 0)
        self.check_error((), ((0, 1, 0),), 1, 0)
        self.check_error((), ((0, 1, 1), (1, 2, 21)), 1, 1)
        self.check_error((), ((0, 1, 1), (2, 2, 1)), 1, 1)
        self.check_error((), ((3, 2, 1),), 1, 0)
        self.check_error((), ((False, 2, 1),), 1, 0)
        self.check_error((), ((0, True, 1),), 1, 0)
        self.check_error((), ((0, 2, True),), 1, 0)

    def test_stretches_that_lie_over_one_another(self):
        self.check_error((), ((0, 2, 1), (1, 3, 1)), 1, 1)
        self.check_error((), ((0, 5, 1), (1, 2, 1)), 1, 1)
        self.check_error((), ((0, 1, 1), (4, 6, 1), (2, 3, 1)), 1, 2)
        self.assertEqual(len(Weighting((), ((0, 2, 1), (2, 3, 1))).stretches), 2)

    def test_fifth_stretch(self):
        five = tuple((low, low + 1, 1) for low in range(5))
        self.check_error((), five, 1, 4)
        self.check_error((), five + ((99, 0, 0),), 1, 4)
        self.check_error((), five[:2] + ((0, 0, 1),) + five[3:], 1, 2)

    def test_masses_come_ahead_of_stretches(self):
        self.check_error(((0, 1), (0, 1)), ((1, 1, 1),), 0, 1)
        self.check_error(((0, 1),), ((0, 1, 1), (1, 1, 1)), 1, 1)
        self.check_error(tuple((place, 1) for place in range(7)), ((1, 1, 1),), 0, 6)

    def test_none_at_all(self):
        self.check_error((), (), 2, 0)

    def test_equality(self):
        one = Weighting(((0, 2),), ((1, 2, 3),))
        self.assertTrue(one == Weighting(((0, 2),), ((1, 2, 3),)))
        self.assertFalse(one != Weighting(((0, 2),), ((1, 2, 3),)))
        self.assertFalse(one == Weighting(((0, 1),), ((1, 2, 3),)))
        self.assertFalse(one == Weighting(((0, 2),), ((1, 2, 4),)))
        self.assertFalse(one == Weighting(((0, 2),), ()))
        self.assertFalse(one == Weighting((), ((1, 2, 3),)))
        self.assertFalse(one == (((0, 2),), ((1, 2, 3),)))

    def test_cut_stretch_is_another_weighting(self):
        self.assertFalse(Weighting((), ((0, 2, 1),)) == Weighting((), ((0, 1, 1), (1, 2, 1))))


class SumsTest(unittest.TestCase):
    def test_near_powers(self):
        weighting = Weighting(((-2, 3), (0, 4)), ((1, 3, 2),))
        self.assertEqual(power_sum(weighting, 0), (11, 1))
        self.assertEqual(power_sum(weighting, 1), (2, 1))
        self.assertEqual(power_sum(weighting, 2), (88, 3))
        self.assertEqual(power_sum(weighting, 3), (16, 1))

    def test_far_powers(self):
        self.assertEqual(power_sum(Weighting(((-2, 1), (1, 1)), ()), 60), (2 ** 60 + 1, 1))
        self.assertEqual(power_sum(Weighting(((-2, 1),), ()), 59), (-2 ** 59, 1))
        self.assertEqual(power_sum(Weighting((), ((0, 1, 5),)), 60), (5, 61))
        self.assertEqual(power_sum(Weighting((), ((0, 1, 4),)), 59), (1, 15))

    def test_place_nought(self):
        self.assertEqual(power_sums(Weighting(((0, 7),), ()), 3), [(7, 1), (0, 1), (0, 1)])

    def test_all_powers(self):
        source = oracle.source_of(1)
        for masses, stretches in [(SIX, FOUR)] + [oracle.some_weighting(source) for _ in range(20)]:
            found = power_sums(Weighting(masses, stretches), 61)
            self.assertEqual(found, [oracle.told(oracle.sum_of_power(masses, stretches, power))
                                     for power in range(61)])
            self.assertEqual(found, [power_sum(Weighting(masses, stretches), power) for power in range(61)])

    def test_counts(self):
        weighting = Weighting(SIX, FOUR)
        self.assertEqual(power_sums(weighting, 0), [])
        self.assertEqual(power_sums(weighting, 1), [power_sum(weighting, 0)])
        self.assertEqual(len(power_sums(weighting, 61)), 61)

    def test_wrong_numbers(self):
        weighting = Weighting(SIX, FOUR)
        for power in (-1, 61, 1000, True, (1, 1)):
            with self.subTest(power=power), self.assertRaises(InvalidNumber):
                power_sum(weighting, power)
        for count in (-1, 62, 1000, True, (1, 1)):
            with self.subTest(count=count), self.assertRaises(InvalidNumber):
                power_sums(weighting, count)

    def test_returned_list_is_free(self):
        weighting = Weighting(SIX, FOUR)
        power_sums(weighting, 3).clear()
        self.assertEqual(len(power_sums(weighting, 3)), 3)

    def test_cut_stretch(self):
        whole = Weighting(SIX, ((-4, 6, 3),))
        cut = Weighting(SIX, ((-4, 1, 3), (1, 6, 3)))
        self.assertEqual(power_sums(whole, 61), power_sums(cut, 61))
        polynomial = tuple(range(-6, 7))
        self.assertEqual(total(whole, polynomial), total(cut, polynomial))
        self.assertEqual(mean(whole, polynomial), mean(cut, polynomial))

    def test_polynomials(self):
        source = oracle.source_of(2)
        for _ in range(60):
            masses, stretches = oracle.some_weighting(source)
            polynomial = oracle.some_polynomial(source)
            wanted = oracle.sum_of_polynomial(masses, stretches, polynomial)
            weighting = Weighting(masses, stretches)
            self.assertEqual(total(weighting, polynomial), oracle.told(wanted))
            self.assertEqual(mean(weighting, polynomial),
                             oracle.told(wanted / oracle.sum_of_power(masses, stretches, 0)))

    def test_edges_of_polynomials(self):
        weighting = Weighting(((1, 2),), ((0, 1, 1),))
        for polynomial in ((), (0,), (0, 0, 0), (0,) * 13):
            self.assertEqual(total(weighting, polynomial), (0, 1))
            self.assertEqual(mean(weighting, polynomial), (0, 1))
        self.assertEqual(total(weighting, (0,) * 12 + (1,)), (27, 13))
        self.assertEqual(mean(weighting, (0,) * 12 + (1,)), (9, 13))
        self.assertEqual(total(weighting, (3, 0, 0)), (9, 1))

    def test_wrong_polynomials(self):
        weighting = Weighting(((1, 2),), ())
        for polynomial in ((0,) * 14, (1,) * 14, (1,) * 20):
            with self.assertRaises(InvalidPolynomial):
                total(weighting, polynomial)
            with self.assertRaises(InvalidPolynomial):
                mean(weighting, polynomial)


class MovesTest(unittest.TestCase):
    def check_error(self, call, part, index):
        with self.assertRaises(InvalidWeighting) as caught:
            call()
        self.assertEqual((caught.exception.part, caught.exception.index), (part, index))

    def test_moved(self):
        weighting = Weighting(((-3, 2), (4, 1)), ((-1, 2, 5), (2, 3, 1)))
        self.assertEqual(moved(weighting, 6), Weighting(((3, 2), (10, 1)), ((5, 8, 5), (8, 9, 1))))
        self.assertEqual(moved(weighting, -17), Weighting(((-20, 2), (-13, 1)), ((-18, -15, 5), (-15, -14, 1))))
        self.assertEqual(moved(weighting, 0), weighting)
        self.assertEqual(weighting, Weighting(((-3, 2), (4, 1)), ((-1, 2, 5), (2, 3, 1))))

    def test_moved_too_far(self):
        weighting = Weighting(((-3, 2), (4, 1)), ((-1, 2, 5), (2, 8, 1)))
        self.check_error(lambda: moved(weighting, 17), 0, 1)
        self.check_error(lambda: moved(weighting, 13), 1, 1)
        self.check_error(lambda: moved(weighting, -18), 0, 0)
        self.check_error(lambda: moved(Weighting((), ((-1, 2, 5), (2, 8, 1))), -20), 1, 0)
        self.check_error(lambda: moved(weighting, 500), 0, 0)

    def test_mirrored(self):
        weighting = Weighting(((-3, 2), (4, 1)), ((-1, 2, 5), (2, 8, 1)))
        self.assertEqual(mirrored(weighting), Weighting(((-4, 1), (3, 2)), ((-8, -2, 1), (-2, 1, 5))))
        self.assertEqual(mirrored(Weighting(SIX, FOUR)).masses[0], (-20, 20))

    def test_mirrored_sums(self):
        source = oracle.source_of(3)
        for _ in range(30):
            weighting = Weighting(*oracle.some_weighting(source))
            signed = [(top * (-1) ** power, bottom) for power, (top, bottom) in enumerate(power_sums(weighting, 20))]
            self.assertEqual(power_sums(mirrored(weighting), 20), signed)
            self.assertEqual(mirrored(mirrored(weighting)), weighting)

    def test_moved_sums(self):
        weighting = Weighting(((-3, 2), (4, 1)), ((-1, 2, 5), (2, 3, 1)))
        self.assertEqual(total(moved(weighting, 5), (-5, 1)), total(weighting, (0, 1)))
        self.assertEqual(total(moved(weighting, -5), (25, 10, 1)), total(weighting, (0, 0, 1)))

    def test_joined(self):
        one = Weighting(((-3, 2), (4, 1)), ((2, 3, 1),))
        other = Weighting(((-5, 7), (-3, 18), (0, 1)), ((-1, 2, 5), (3, 4, 1)))
        wanted = Weighting(((-5, 7), (-3, 20), (0, 1), (4, 1)), ((-1, 2, 5), (2, 3, 1), (3, 4, 1)))
        self.assertEqual(joined(one, other), wanted)
        self.assertEqual(joined(other, one), wanted)
        self.assertEqual(one, Weighting(((-3, 2), (4, 1)), ((2, 3, 1),)))

    def test_joined_sums(self):
        one, other = Weighting(SIX[:3], FOUR[:2]), Weighting(SIX[3:], FOUR[2:])
        self.assertEqual(joined(other, one), Weighting(SIX, FOUR))
        added = [oracle.told(Fraction(*left) + Fraction(*right))
                 for left, right in zip(power_sums(one, 61), power_sums(other, 61))]
        self.assertEqual(power_sums(joined(one, other), 61), added)

    def test_joined_with_nothing_in_common(self):
        self.assertEqual(joined(Weighting(((0, 1),), ()), Weighting((), ((0, 1, 1),))),
                         Weighting(((0, 1),), ((0, 1, 1),)))

    def test_joined_wrongly(self):
        heavy = Weighting(((-1, 1), (2, 15)), ((0, 4, 1),))
        self.check_error(lambda: joined(heavy, Weighting(((1, 1), (2, 6)), ())), 0, 2)
        self.check_error(lambda: joined(heavy, Weighting((), ((3, 5, 1),))), 1, 1)
        self.check_error(lambda: joined(heavy, Weighting((), ((-2, 1, 1),))), 1, 1)
        self.check_error(lambda: joined(heavy, Weighting((), ((0, 4, 1),))), 1, 1)
        self.check_error(lambda: joined(heavy, heavy), 0, 1)

    def test_joined_to_too_much(self):
        six = Weighting(tuple((place, 1) for place in range(6)), ())
        self.check_error(lambda: joined(six, Weighting(((-1, 1),), ())), 0, 6)
        self.check_error(lambda: joined(six, Weighting(((4, 20), (9, 1)), ())), 0, 4)
        self.assertEqual(joined(six, Weighting(((4, 19),), ())).masses[4], (4, 20))
        four = Weighting((), tuple((low, low + 1, 1) for low in range(0, 8, 2)))
        self.check_error(lambda: joined(Weighting((), ((-3, -2, 1),)), four), 1, 4)
        self.check_error(lambda: joined(four, Weighting((), ((-3, -2, 1), (0, 1, 1)))), 1, 2)


if __name__ == "__main__":
    unittest.main()
