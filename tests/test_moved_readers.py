"""Promise 10 of the third stage: weights, sums, readings and what is known when all is moved and mirrored."""

import unittest
from fractions import Fraction

from fewreadings.errors import Clash
from fewreadings.misses import false_ones, gap, heavy_places, needless_places, polynomial_by, repaired, sum_by
from fewreadings.readers import Reader
from fewreadings.rules import served, weights_for
from fewreadings.weightings import Weighting, mean, mirrored, moved, power_sum
from tests import oracle
from tests.test_moved_roots import near_weightings, shifted, turned


def known_of(reader):
    return reader.known, reader.sum_known(), reader.places_left(), reader.told_so_far


def swung(told, count):
    """Return what a reader of mirrored places tells, in the order of the places that are not."""
    known, total, left, calls = told
    return (known[::-1], total, tuple(count - 1 - index for index in left[::-1]),
            [(count - 1 - index, reading) for index, reading in calls])


def has_same_worths(one, other, turn, shift):
    """Tell whether one polynomial is at each spot what another one is at the spot times turn, and shift further."""
    numbers = [[oracle.untold(number) for number in polynomial] for polynomial in (one, other)]
    return all(oracle.worth(numbers[0], spot) == oracle.worth(numbers[1], turn * spot + shift) for spot in range(7))


class ReadersTest(unittest.TestCase):
    def test_moved_and_mirrored(self):
        clashes, sums_alone = 0, 0
        for source, weighting, count, shift in near_weightings(91, 150):
            places = oracle.some_places(source, weighting.masses)
            degree = source.randint(0, 5)
            indexes = [source.randrange(len(places)) for _ in range(8)]
            if source.randint(0, 2) == 0:
                # The reading in the middle of a weighting with a middle tells the sum for the degree 1.
                weighting, places, degree = Weighting(((0, 1),), ((-2, 2, count),)), ((-1, 1), (0, 1), (1, 1)), 1
                indexes = [1, 1, source.randrange(3), source.randrange(3)]
            reader = Reader(weighting, places, degree)
            further = Reader(moved(weighting, shift), shifted(places, shift), degree)
            turned_reader = Reader(mirrored(weighting), turned(places), degree)
            for index in indexes:
                reading = oracle.some_terms(source, Fraction(source.randint(-2, 2), source.randint(1, 2)))
                results = []
                for one, at in ((reader, index), (further, index), (turned_reader, len(places) - 1 - index)):
                    try:
                        results.append(one.seen(at, reading))
                    except Clash:
                        results.append("Clash")
                clashes += results[0] == "Clash"
                self.assertEqual(results, results[:1] * 3)
                self.assertEqual(known_of(further), known_of(reader))
                self.assertEqual(swung(known_of(turned_reader), len(places)), known_of(reader))
                found = reader.polynomial_known()
                sums_alone += found is None and reader.sum_known() is not None
                if found is None:
                    self.assertIsNone(further.polynomial_known())
                    self.assertIsNone(turned_reader.polynomial_known())
                else:
                    self.assertTrue(has_same_worths(found, further.polynomial_known(), 1, shift))
                    self.assertTrue(has_same_worths(found, turned_reader.polynomial_known(), -1, 0))
        self.assertGreater(clashes, 100)
        self.assertGreater(sums_alone, 20)


class ReadingsTest(unittest.TestCase):
    def test_sums_and_weights(self):
        for source, weighting, _, shift in near_weightings(92, 80):
            places = oracle.some_places(source, weighting.masses)
            count = len(places)
            readings = oracle.some_readings(source, count)
            weights = oracle.some_weights(source, count)
            for other, spots, mirror in ((moved(weighting, shift), shifted(places, shift), 1),
                                         (mirrored(weighting), turned(places), -1)):
                self.assertEqual(weights_for(other, spots), weights_for(weighting, places)[::mirror])
                self.assertEqual(sum_by(other, spots, readings[::mirror]), sum_by(weighting, places, readings))
                self.assertEqual(served(other, spots, weights[::mirror]), served(weighting, places, weights))
                self.assertEqual(power_sum(other, 0), power_sum(weighting, 0))
                self.assertEqual(len(polynomial_by(spots, readings[::mirror])), len(polynomial_by(places, readings)))
                for call in (needless_places, heavy_places):
                    wanted = sorted(index if mirror == 1 else count - 1 - index for index in call(weighting, places))
                    self.assertEqual(list(call(other, spots)), wanted)

    def test_gaps(self):
        for source, weighting, _, _ in near_weightings(93, 60):
            places = oracle.some_places(source, weighting.masses)
            weights = oracle.some_weights(source, len(places))
            for power in (0, 1, 2, 7, 30):
                top, bottom = gap(weighting, places, weights, power)
                self.assertEqual(gap(mirrored(weighting), turned(places), weights[::-1], power),
                                 ((-1) ** power * top, bottom))

    def test_means(self):
        for _, weighting, _, shift in near_weightings(94, 60):
            here = oracle.untold(mean(weighting, (0, 1)))
            self.assertEqual(mean(moved(weighting, shift), (0, 1)), oracle.told(here + shift))
            self.assertEqual(mean(mirrored(weighting), (0, 1)), oracle.told(-here))

    def test_false_places(self):
        mended = 0
        for seed in range(200):
            source = oracle.source_of(9500 + seed)
            degree, shift = source.randint(0, 4), source.randint(-5, 5)
            places = oracle.some_places(source, ())
            polynomial = [source.randint(-3, 3) for _ in range(degree + 1)]
            numbers = [oracle.worth(polynomial, oracle.untold(place)) for place in places]
            for _ in range(source.randint(0, 2)):
                numbers[source.randrange(len(numbers))] += source.choice((1, -2))
            readings = tuple(oracle.some_terms(source, number) for number in numbers)
            false, right = false_ones(places, readings, degree), repaired(places, readings, degree)
            mended += right is not None and right != tuple(oracle.told(number) for number in numbers)
            self.assertEqual(false_ones(shifted(places, shift), readings, degree), false)
            self.assertEqual(repaired(shifted(places, shift), readings, degree), right)
            self.assertEqual(false_ones(turned(places), readings[::-1], degree),
                             tuple(len(places) - 1 - index for index in false[::-1]))
            self.assertEqual(repaired(turned(places), readings[::-1], degree), right and right[::-1])
        self.assertGreater(mended, 20)


if __name__ == "__main__":
    unittest.main()
