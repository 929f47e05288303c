"""Promises 1 and 2 of the third stage, and what promise 12 says of readers: what is known while readings are told."""

import copy
import itertools
import unittest
from fractions import Fraction

from fewreadings.errors import Clash, InvalidFraction, InvalidNumber, InvalidPlaces, UnknownPlace
from fewreadings.readers import Reader
from fewreadings.weightings import Weighting
from tests import oracle
from tests.reader_model import ReaderModel

LINE = Weighting((), ((-1, 1, 1),))
PLACES = ((-1, 1), (0, 1), (1, 1))
SIX = ((-2, 1), (-1, 1), (0, 1), (1, 2), (1, 1), (3, 1))


def all_told(reader):
    """Return all that a reader tells."""
    return (reader.known, reader.polynomial_known(), reader.sum_known(), reader.places_left(), reader.told_so_far)


def some_masses(source, count):
    """Return masses and stretches, often such that several polynomials have the same sum."""
    if source.randint(0, 2) > 0:
        return oracle.some_strong_weighting(source, count)
    far, mass = source.randint(1, 5), source.randint(1, 9)
    return source.choice((((), ((-far, far, mass),)), (((-far, mass), (0, 2), (far, mass)), ()), (((0, mass),), ())))


def some_spots(source):
    spots = {Fraction(source.randint(-9, 9), source.randint(1, 3)) for _ in range(source.randint(1, 6))}
    if source.randint(0, 1):
        spots.add(Fraction(0))
    return sorted(source.sample(sorted(spots), min(6, len(spots))))


class ReaderTest(unittest.TestCase):
    def check_unchanged(self, reader, error, index, reading):
        before = all_told(reader)
        with self.subTest(index=index, reading=reading):
            with self.assertRaises(error) as caught:
                reader.seen(index, reading)
            self.assertIs(type(caught.exception), error)
            self.assertEqual(all_told(reader), before)


class KnownTest(ReaderTest):
    def test_nothing_told(self):
        for degree in range(6):
            self.assertEqual(all_told(Reader(LINE, SIX, degree)), ((None,) * 6, None, None, (0, 1, 2, 3, 4, 5), []))

    def test_degree_0(self):
        reader = Reader(Weighting(((0, 2),), ((-1, 1, 3),)), SIX, 0)
        self.assertEqual(reader.seen(3, (-4, 6)), 6)
        self.assertEqual(all_told(reader), (((-2, 3),) * 6, ((-2, 3),), (-16, 3), (), [(3, (-2, 3))]))
        for index in range(6):
            self.check_unchanged(reader, Clash, index, (2, 3))
            self.assertEqual(reader.seen(index, (2, -3)), 6)
        self.assertEqual(len(reader.told_so_far), 7)

    def test_degree_5(self):
        reader = Reader(LINE, SIX, 5)
        # x^5 - x, one place after the other; at five places it is not known at the sixth one.
        worths = [spot ** 5 - spot for spot in map(oracle.untold, SIX)]
        for count, index in enumerate((5, 0, 3, 1, 2), 1):
            self.assertEqual(reader.seen(index, oracle.told(worths[index])), count)
            self.assertIsNone(reader.polynomial_known())
            self.assertIsNone(reader.known[4])
        self.assertEqual(reader.places_left(), (4,))
        self.assertEqual(reader.seen(4, (0, 7)), 6)
        self.assertEqual(reader.polynomial_known(), ((0, 1), (-1, 1), (0, 1), (0, 1), (0, 1), (1, 1)))
        self.assertEqual(reader.sum_known(), (0, 1))

    def test_lesser_polynomial(self):
        reader = Reader(LINE, SIX, 5)
        for index in range(6):
            reader.seen(index, (0, 3))
        self.assertEqual((reader.polynomial_known(), reader.sum_known()), ((), (0, 1)))

    def test_known_by_others(self):
        reader = Reader(LINE, SIX, 1)
        self.assertEqual([reader.seen(0, (1, 1)), reader.seen(5, (3, 2))], [1, 6])
        self.assertEqual(reader.known, ((1, 1), (11, 10), (6, 5), (5, 4), (13, 10), (3, 2)))
        self.assertEqual((reader.polynomial_known(), reader.places_left()), (((6, 5), (1, 10)), ()))

    def test_one_place(self):
        for degree in range(6):
            reader = Reader(LINE, ((7, -2),), degree)
            self.assertEqual(reader.seen(0, (1, 3)), 1)
            self.assertEqual((reader.known, reader.places_left()), (((1, 3),), ()))
            self.assertEqual(reader.polynomial_known(), ((1, 3),) if degree == 0 else None)
            self.check_unchanged(reader, Clash, 0, (1, 4))

    def test_several_polynomials_of_one_sum(self):
        reader = Reader(LINE, PLACES, 1)
        self.assertIsNone(reader.sum_known())
        reader.seen(1, (5, 2))
        self.assertEqual((reader.sum_known(), reader.polynomial_known(), reader.known), ((5, 1), None,
                                                                                         (None, (5, 2), None)))
        other = Reader(LINE, PLACES, 1)
        other.seen(0, (5, 2))
        self.assertIsNone(other.sum_known())
        # The best weights of these three places serve the degree 3, not 4.
        for degree, found in ((3, (8, 3)), (4, None)):
            reader = Reader(LINE, PLACES, degree)
            for index, reading in enumerate(((1, 1), (1, 1), (3, 1))):
                self.assertIsNone(reader.sum_known())
                reader.seen(index, reading)
            self.assertEqual((reader.sum_known(), reader.polynomial_known()), (found, None))

    def test_sum_of_a_single_mass(self):
        reader = Reader(Weighting(((1, 4),), ()), PLACES, 5)
        reader.seen(0, (9, 1))
        self.assertIsNone(reader.sum_known())
        reader.seen(2, (3, 8))
        self.assertEqual((reader.sum_known(), reader.polynomial_known()), ((3, 2), None))

    def test_told_twice(self):
        reader = Reader(LINE, PLACES, 2)
        self.assertEqual([reader.seen(1, (2, 4)), reader.seen(1, (2, 4)), reader.seen(1, (-3, -6))], [1, 1, 1])
        self.assertEqual(reader.told_so_far, [(1, (1, 2))] * 3)
        self.assertEqual((reader.known, reader.polynomial_known()), ((None, (1, 2), None), None))
        self.check_unchanged(reader, Clash, 1, (1, 3))
        self.assertEqual([reader.seen(0, (0, -9)), reader.seen(2, (0, 1)), reader.seen(0, (0, 1))], [2, 3, 3])
        self.assertEqual(reader.polynomial_known(), ((1, 2), (0, 1), (-1, 2)))

    def test_clash_with_others(self):
        reader = Reader(LINE, PLACES, 1)
        reader.seen(0, (0, 1))
        reader.seen(1, (1, 1))
        self.check_unchanged(reader, Clash, 2, (3, 1))
        self.check_unchanged(reader, Clash, 2, (-2, 1))
        self.assertEqual(reader.seen(2, (-4, -2)), 3)
        self.assertEqual(reader.told_so_far, [(0, (0, 1)), (1, (1, 1)), (2, (2, 1))])
        # The same readings do not clash for a greater degree.
        reader = Reader(LINE, PLACES, 2)
        self.assertEqual([reader.seen(0, (0, 1)), reader.seen(1, (1, 1)), reader.seen(2, (3, 1))], [1, 2, 3])

    def test_against_equations(self):
        clashes, sums_alone = 0, 0
        for seed in range(300):
            source = oracle.source_of(1000 + seed)
            masses, stretches = some_masses(source, 1)
            spots, degree = some_spots(source), seed % 6
            reader = Reader(Weighting(masses, stretches), tuple(oracle.some_terms(source, spot) for spot in spots),
                            degree)
            model = ReaderModel(masses, stretches, spots, degree)
            polynomial = [Fraction(source.randint(-5, 5), source.randint(1, 3)) for _ in range(degree + 1)]
            for _ in range(8):
                index = source.randrange(len(spots))
                number = oracle.worth(polynomial, spots[index])
                if source.randint(0, 3) == 0:
                    number += source.choice((1, -1, Fraction(1, 7)))
                reading = oracle.some_terms(source, number)
                try:
                    wanted = model.seen(index, reading)
                except Clash:
                    clashes += 1
                    self.check_unchanged(reader, Clash, index, reading)
                else:
                    self.assertEqual(reader.seen(index, reading), wanted)
                self.assertEqual(all_told(reader), model.all_told())
                sums_alone += reader.sum_known() is not None and reader.polynomial_known() is None
        self.assertGreater(clashes, 100)
        self.assertGreater(sums_alone, 30)

    def test_any_order(self):
        weighting = Weighting(((0, 1),), ((-2, 2, 1), (3, 4, 5)))
        for degree in range(6):
            polynomial = [Fraction(1, 2), -1, 0, 3, 1, -2][:degree + 1]
            wanted = None
            for order in itertools.islice(itertools.permutations(range(6)), 0, None, 5):
                reader = Reader(weighting, SIX, degree)
                for count, index in enumerate(order, 1):
                    told = oracle.told(oracle.worth(polynomial, oracle.untold(SIX[index])))
                    self.assertEqual(reader.seen(index, told), count if count <= degree else 6)
                found = (reader.known, reader.polynomial_known(), reader.sum_known(), reader.places_left())
                wanted = wanted or found
                self.assertEqual(found, wanted)
            self.assertEqual(wanted[1], tuple(oracle.told(one) for one in oracle.shortened(polynomial)))
            self.assertEqual(oracle.untold(wanted[2]),
                             oracle.sum_of_polynomial(weighting.masses, weighting.stretches, polynomial))


class WrongTest(ReaderTest):
    def check_refused(self, error, *arguments):
        with self.subTest(arguments=arguments[1:]):
            with self.assertRaises(error) as caught:
                Reader(*arguments)
            self.assertIs(type(caught.exception), error)
        return caught.exception

    def test_places(self):
        seven = tuple((number, 1) for number in range(7))
        for places, index in (((), 0), (((1, 0),), 0), (((0, 1), (3, 0)), 1), (((0, 1), (0, 5)), 1),
                              (((0, 1), (1, 1), (1, -1)), 2), (((1, 2), (2, 4)), 1), (seven, 6),
                              (((1, 2), (1, 3), (0, 0)), 1)):
            for degree in (2, -1, 6):
                self.assertEqual(self.check_refused(InvalidPlaces, LINE, places, degree).index, index)
        self.assertEqual(len(Reader(LINE, seven[:6], 5).known), 6)

    def test_degrees(self):
        for degree in (-1, 6, 7, 100, True, False):
            self.check_refused(InvalidNumber, LINE, PLACES, degree)
        for degree in (0, 5):
            self.assertEqual(Reader(LINE, PLACES, degree).known, (None,) * 3)

    def test_indexes(self):
        reader = Reader(LINE, PLACES, 1)
        reader.seen(0, (1, 1))
        for index in (-1, -3, 3, 4, 100, True, False):
            for reading in ((1, 1), (1, 0), (2, 1)):
                self.check_unchanged(reader, UnknownPlace, index, reading)

    def test_fractions(self):
        reader = Reader(LINE, PLACES, 1)
        reader.seen(0, (1, 1))
        for index in range(3):
            self.check_unchanged(reader, InvalidFraction, index, (1, 0))
            self.check_unchanged(reader, InvalidFraction, index, (0, 0))
        # The fraction is checked ahead of a clash, and what was refused can be told rightly.
        self.check_unchanged(reader, Clash, 0, (2, 1))
        self.assertEqual(reader.seen(0, (3, 3)), 1)


class RepeatedTest(ReaderTest):
    def test_lists_are_free(self):
        reader = Reader(LINE, PLACES, 2)
        reader.seen(2, (1, 2))
        reader.told_so_far.clear()
        told = reader.told_so_far
        told.append((0, (1, 1)))
        self.assertEqual(reader.told_so_far, [(2, (1, 2))])
        self.assertIsNot(reader.told_so_far, reader.told_so_far)
        reader.seen(0, (0, 1))
        self.assertEqual(told, [(2, (1, 2)), (0, (1, 1))])
        self.assertEqual(reader.told_so_far, [(2, (1, 2)), (0, (0, 1))])

    def test_asked_again(self):
        source = oracle.source_of(41)
        for _ in range(30):
            masses, stretches = oracle.some_weighting(source)
            weighting, places = Weighting(masses, stretches), oracle.some_places(source, masses)
            before = copy.deepcopy(places)
            one, other = Reader(weighting, places, 3), Reader(weighting, places, 3)
            for index, reading in enumerate(oracle.some_readings(source, min(4, len(places)))):
                self.assertEqual(one.seen(index, reading), other.seen(index, reading))
                self.assertEqual(all_told(one), all_told(one))
                self.assertEqual(all_told(one), all_told(other))
            self.assertEqual((places, weighting.masses, weighting.stretches), (before, masses, stretches))

    def test_two_readers(self):
        one, other = Reader(LINE, PLACES, 1), Reader(LINE, PLACES, 1)
        one.seen(1, (1, 1))
        self.assertEqual(all_told(other), all_told(Reader(LINE, PLACES, 1)))

    def test_kinds(self):
        reader = Reader(LINE, PLACES, 1)
        self.assertEqual([type(one) for one in (reader.known, reader.told_so_far, reader.places_left())],
                         [tuple, list, tuple])
        self.assertIs(type(reader.seen(0, (1, 1))), int)
        reader.seen(1, (1, 1))
        self.assertEqual([type(one) for one in (reader.polynomial_known(), reader.sum_known())], [tuple, tuple])


if __name__ == "__main__":
    unittest.main()
