"""The examples of the document's interface, word by word."""

import unittest

from fewreadings.balances import Balance
from fewreadings.codec import decode_weighting, encode_weighting
from fewreadings.errors import (DecodeError, ExecutionFailed, InvalidPlaces, InvalidSums, InvalidText, InvalidWeighting,
                                NothingLeft, TooFew, UnknownPlace)
from fewreadings.further import determinants, further_polynomial, is_grown, next_least
from fewreadings.misses import (cut_gap, cut_sum, false_ones, first_gap, gap, heavy_places, lacking_reading,
                                needless_places, polynomial_by, repaired, sum_by)
from fewreadings.notation import format_weighting, fraction_text, parse_weighting, polynomial_text
from fewreadings.readers import Reader
from fewreadings.roots import (all_whole, fewest_places, root_floors, root_polynomial, roots_between, steps,
                               whole_rule)
from fewreadings.rules import bar, best_degree, reading, served, weights_for
from fewreadings.scripts import run_script
from fewreadings.weightings import Weighting, joined, mean, mirrored, moved, power_sums, total


class ExamplesTest(unittest.TestCase):
    def test_weightings(self):
        weighting = Weighting(((0, 2),), ((-1, 1, 3),))
        told = [power_sums(weighting, 5), total(weighting, (1, 0, 3)), mean(weighting, (1, 0, 3))]
        told = told + [moved(weighting, 2).stretches, mirrored(moved(weighting, 2)).masses]
        told = told + [joined(weighting, Weighting(((0, 1), (5, 2)), ())).masses]
        self.assertEqual(told, [[(8, 1), (0, 1), (2, 1), (0, 1), (6, 5)], (14, 1), (7, 4),
                                ((1, 3, 3),), ((-2, 2),), ((0, 3), (5, 2))])

    def test_weightings_error(self):
        with self.assertRaises(InvalidWeighting) as caught:
            Weighting(((0, 2),), ((1, 1, 3),))
        self.assertEqual((caught.exception.part, caught.exception.index), (1, 0))

    def test_rules(self):
        weighting, ends = Weighting(((0, 2),), ((-1, 1, 3),)), ((-1, 1), (1, 1))
        told = [reading(((-1, 1), (1, 2)), ((1, 2), (3, -1)), (1, 2)), weights_for(weighting, ends)]
        told = told + [best_degree(weighting, ends), bar(weighting, ends), served(weighting, ends, ((4, 1), (3, 1)))]
        single = Weighting(((3, 5),), ())
        told = told + [served(weighting, ends, ((4, 1), (4, 1))), served(single, ((3, 1),), ((5, 1),)),
                       bar(single, ((3, 1),))]
        self.assertEqual(told, [(-13, 2), ((4, 1), (4, 1)), 1, ((-1, 1), (0, 1), (1, 1)), -1, 1, None, None])

    def test_rules_error(self):
        with self.assertRaises(InvalidPlaces) as caught:
            reading(((1, 2), (2, 4)), ((1, 1), (1, 1)), (1,))
        self.assertEqual(caught.exception.index, 1)

    def test_roots(self):
        weighting = Weighting(((0, 2),), ((-1, 1, 3),))
        told = [root_polynomial(weighting, 2), steps(weighting, 2), root_floors(weighting, 2, 10)]
        told = told + [root_floors(weighting, 2, 3), roots_between(weighting, 2, (-1, 2), (1, 2))]
        self.assertEqual(told, [((-1, 4), (0, 1), (1, 1)), [((0, 1), (0, 1)), ((0, 1), (1, 4))], [-5, 5], [-2, 1], 1])

    def test_whole_roots(self):
        weighting, single = Weighting(((0, 2),), ((-1, 1, 3),)), Weighting(((3, 5),), ())
        told = [fewest_places(weighting, 3), fewest_places(single, 7), all_whole(weighting, 1)]
        told = told + [whole_rule(weighting, 1), all_whole(weighting, 2)]
        self.assertEqual(told, [2, 1, (0,), (((0, 1),), ((8, 1),)), None])

    def test_roots_error(self):
        with self.assertRaises(TooFew):
            root_polynomial(Weighting(((3, 5),), ()), 2)

    def test_further(self):
        weighting = Weighting(((0, 2),), ((-1, 1, 3),))
        told = [further_polynomial(weighting, ((0, 1),), 2), further_polynomial(weighting, ((0, 1),), 1)]
        told = told + [is_grown(weighting, ((1, 1),), ((-1, 4),)), determinants(((8, 1), (0, 1), (2, 1)))]
        told = told + [next_least(((8, 1), (0, 1), (2, 1), (0, 1)))]
        self.assertEqual(told, [((-3, 5), (0, 1), (1, 1)), None, True, [(8, 1), (16, 1)], (1, 2)])

    def test_further_error(self):
        with self.assertRaises(InvalidSums) as caught:
            next_least(((8, 1),))
        self.assertEqual(caught.exception.index, 0)

    def test_misses(self):
        line = Weighting((), ((-1, 1, 1),))
        ends, ones = ((-1, 1), (1, 1)), ((1, 1), (1, 1))
        found = [first_gap(line, ends, ones), needless_places(line, ends),
                 heavy_places(line, ((-1, 1), (0, 1), (1, 1)))]
        found = found + [polynomial_by(((0, 1), (1, 1)), ((1, 1), (3, 1))), sum_by(line, ends, ((1, 1), (4, 2)))]
        found = found + [lacking_reading(line, ends, ((1, 1), (0, 1)), 1, (5, 1))]
        self.assertEqual(found, [(2, (-4, 3)), (), (0, 1, 2), ((1, 1), (2, 1)), (3, 1), (4, 1)])

    def test_false_readings_and_cuts(self):
        line = Weighting((), ((-1, 1, 1),))
        places, readings = ((0, 1), (1, 1), (2, 1), (3, 1)), ((0, 1), (1, 1), (5, 1), (3, 1))
        found = [gap(line, ((0, 1),), ((2, 1),), 2), false_ones(places, readings, 1), repaired(places, readings, 1)]
        found = found + [cut_sum(0, 2, 2, ((0, 1),), ((2, 1),), (0, 1)), cut_gap(0, 2, 1, ((0, 1),), ((2, 1),), (0, 0, 1))]
        self.assertEqual(found, [(2, 3), (2,), ((0, 1), (1, 1), (2, 1), (3, 1)), (2, 1), (2, 3)])

    def test_balances(self):
        balance = Balance(Weighting(((0, 2),), ()))
        found = balance.apply_all([("add", 3, 1), ("lay", 0, 2, 1), ("move", -1), ("lift", -1)])
        found = [found, balance.whole_now, balance.mean_now, balance.undo(), balance.whole_now,
                 balance.weighting_now.masses]
        self.assertEqual(found, [[1, 1, (0, 1), 2], (3, 1), (2, 3), True, (5, 1), ((-1, 2), (2, 1))])

    def test_balances_error(self):
        with self.assertRaises(NothingLeft):
            Balance(Weighting(((0, 2),), ())).lift(0)

    def test_readers(self):
        line = Weighting((), ((-1, 1, 1),))
        reader = Reader(line, ((-1, 1), (0, 1), (1, 1)), 1)
        found = [reader.seen(1, (2, 4)), reader.known, reader.sum_known(), reader.places_left(),
                 reader.polynomial_known()]
        found = found + [reader.seen(0, (0, 1)), reader.known, reader.polynomial_known()]
        self.assertEqual(found, [1, (None, (1, 2), None), (1, 1), (0, 2), None, 3, ((0, 1), (1, 2), (1, 1)),
                                 ((1, 2), (1, 2))])

    def test_readers_error(self):
        line = Weighting((), ((-1, 1, 1),))
        with self.assertRaises(UnknownPlace):
            Reader(line, ((0, 1),), 0).seen(1, (1, 1))

    def test_notation(self):
        one = Weighting(((0, 2),), ((1, 4, 3),))
        found = [fraction_text((4, -6)), polynomial_text(((-1, 3), (0, 1), (1, 1))), polynomial_text(((1, 1), (-2, 1)))]
        found = found + [format_weighting(one), parse_weighting(format_weighting(one)) == one]
        self.assertEqual(found, ['-2/3', 'x^2 - 1/3', '-2 x + 1', 'mass 0 2\nstretch 1 4 3', True])

    def test_notation_error(self):
        with self.assertRaises(InvalidText) as caught:
            parse_weighting("mass 0")
        self.assertEqual((caught.exception.row, caught.exception.word), (0, 2))

    def test_codec(self):
        values = encode_weighting(Weighting(((0, 2),), ()))
        self.assertEqual([values, decode_weighting(values).masses], [[113, 1, 0, 20, 2, 12], ((0, 2),)])

    def test_codec_error(self):
        with self.assertRaises(DecodeError) as caught:
            decode_weighting([113, 7])
        self.assertEqual(caught.exception.offset, 1)

    def test_scripts(self):
        lines = ["add 3 1", "show", "when 3", "mean", "lift 3", "end", "repeat 2", "add 0 1", "end", "show"]
        balance, output = run_script(Weighting(((0, 2),), ()), "\n".join(lines))
        self.assertEqual([output, balance.weighting_now.masses, len(balance.history)], [['3', '1', '4'], ((0, 4),), 4])

    def test_scripts_error(self):
        with self.assertRaises(ExecutionFailed) as caught:
            run_script(Weighting(((0, 2),), ()), "lift 5")
        self.assertEqual(caught.exception.row, 0)


if __name__ == "__main__":
    unittest.main()
