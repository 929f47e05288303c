"""Of several wrong arguments, the error of the first one that is checked, in all functions of the interface."""

import itertools
import unittest

from fewreadings import codec, errors, further, misses, notation, roots, rules, weightings
from fewreadings.weightings import Weighting
from tests.test_interface import FUNCTIONS

LINE = Weighting((), ((-1, 1, 1),))
SINGLE = Weighting(((3, 5),), ())
PLACES = ((-1, 1), (0, -2), (1, 1))
ONES = ((1, 1), (2, 2), (-1, -1))
LONG = (1,) * 14

PLACES_FAULTS = ((((1, 0),), "InvalidPlaces", 0), (((0, 1), (0, 1)), "InvalidPlaces", 1), ((), "InvalidPlaces", 0))
WEIGHTS_FAULTS = (((), "InvalidWeights", 0), (((1, 1), (1, 0), (1, 0)), "InvalidWeights", 1),
                  (((1, 1),) * 4, "InvalidWeights", 3))
READINGS_FAULTS = (((), "InvalidReadings", 0), (((1, 1), (1, 0), (1, 0)), "InvalidReadings", 1),
                   (((1, 1),) * 4, "InvalidReadings", 3), (((1, 1),) * 2, "InvalidReadings", 2))
POLYNOMIAL_FAULTS = ((LONG, "InvalidPolynomial", None),)
FRACTION_FAULTS = (((1, 0), "InvalidFraction", None), ((0, 0), "InvalidFraction", None))


def numbers(*worths):
    return tuple((worth, "InvalidNumber", None) for worth in worths)


COUNT_FAULTS = numbers(-1, 7)
TOO_FEW = ((SINGLE, "TooFew", None),)
FURTHER_FAULTS = ((((1, 0),), "InvalidPlaces", 0), (((5, 1), (4, 1)), "InvalidPlaces", 1),
                  (((5, 1), (6, 1), (7, 1), (8, 1), (9, 1)), "InvalidPlaces", 4),
                  (((1, 1), (5, 1), (2, 1)), "InvalidPlaces", 2))
# The second of these further places is told, which is checked when all told and further places are right.
TOLD_FURTHER = ((((-2, 1), (0, 1)), "InvalidPlaces", 1),)

# A function, arguments that are right, and its checks in their order: of which argument, and what fails it.
CASES = (
    (weightings.power_sum, (LINE, 3), ((1, numbers(-1, 61)),)),
    (weightings.power_sums, (LINE, 3), ((1, numbers(-1, 62)),)),
    (weightings.total, (LINE, (1, 2)), ((1, POLYNOMIAL_FAULTS),)),
    (weightings.mean, (LINE, (1, 2)), ((1, POLYNOMIAL_FAULTS),)),
    (rules.reading, (PLACES, ONES, (1, 2)), ((0, PLACES_FAULTS), (1, WEIGHTS_FAULTS), (2, POLYNOMIAL_FAULTS))),
    (rules.served, (LINE, PLACES, ONES), ((1, PLACES_FAULTS), (2, WEIGHTS_FAULTS))),
    (rules.weights_for, (LINE, PLACES), ((1, PLACES_FAULTS),)),
    (rules.best_degree, (LINE, PLACES), ((1, PLACES_FAULTS),)),
    (rules.bar, (LINE, PLACES), ((1, PLACES_FAULTS),)),
    (roots.root_polynomial, (LINE, 2), ((1, COUNT_FAULTS), (0, TOO_FEW))),
    (roots.steps, (LINE, 2), ((1, COUNT_FAULTS), (0, TOO_FEW))),
    (roots.fewest_places, (LINE, 2), ((1, numbers(-1, 12)),)),
    (roots.root_floors, (LINE, 2, 5), ((1, COUNT_FAULTS), (0, TOO_FEW), (2, numbers(0, 1000001)))),
    (roots.roots_between, (LINE, 2, (0, 1), (1, 1)),
     ((1, COUNT_FAULTS), (0, TOO_FEW), (2, FRACTION_FAULTS), (3, FRACTION_FAULTS))),
    (roots.all_whole, (LINE, 2), ((1, numbers(-1, 0, 7)), (0, TOO_FEW))),
    (roots.whole_rule, (LINE, 2), ((1, numbers(-1, 0, 7)), (0, TOO_FEW))),
    (further.further_polynomial, (LINE, PLACES, 2), ((1, PLACES_FAULTS), (2, numbers(-1, 5)))),
    (further.is_grown, (LINE, PLACES, ((5, 1), (6, 1))),
     ((1, PLACES_FAULTS), (2, (*FURTHER_FAULTS, *TOLD_FURTHER)))),
    (further.determinants, (((1, 1),),), ((0, ((((1, 0),), "InvalidSums", 0),)),)),
    (further.next_least, (((1, 1), (1, 1)),),
     ((0, ((((0, 1), (1, 0)), "InvalidSums", 1), (((0, 1),), "InvalidSums", 0),
           (((-1, 1), (0, 1)), "NoWeighting", None))),)),
    (misses.gap, (LINE, PLACES, ONES, 2), ((1, PLACES_FAULTS), (2, WEIGHTS_FAULTS), (3, numbers(-1, 31)))),
    (misses.first_gap, (LINE, PLACES, ONES), ((1, PLACES_FAULTS), (2, WEIGHTS_FAULTS))),
    (misses.needless_places, (LINE, PLACES), ((1, PLACES_FAULTS),)),
    (misses.heavy_places, (LINE, PLACES), ((1, PLACES_FAULTS),)),
    (misses.polynomial_by, (PLACES, ONES), ((0, PLACES_FAULTS), (1, READINGS_FAULTS))),
    (misses.sum_by, (LINE, PLACES, ONES), ((1, PLACES_FAULTS), (2, READINGS_FAULTS))),
    (misses.lacking_reading, (LINE, PLACES, ONES, 2, (1, 1)),
     ((1, PLACES_FAULTS), (2, READINGS_FAULTS), (3, ((-1, "UnknownPlace", None), (3, "UnknownPlace", None))),
      (4, FRACTION_FAULTS))),
    (misses.false_ones, (PLACES, ONES, 2), ((0, PLACES_FAULTS), (1, READINGS_FAULTS), (2, numbers(-1, 5)))),
    (misses.repaired, (PLACES, ONES, 2), ((0, PLACES_FAULTS), (1, READINGS_FAULTS), (2, numbers(-1, 5)))),
    (misses.cut_sum, (0, 3, 2, PLACES, ONES, (1, 2)),
     ((0, numbers(-21, 4)), (1, numbers(21, -1)), (2, numbers(0, 13)), (3, PLACES_FAULTS), (4, WEIGHTS_FAULTS),
      (5, POLYNOMIAL_FAULTS))),
    (misses.cut_gap, (0, 3, 2, PLACES, ONES, (1, 2)),
     ((0, numbers(-21, 4)), (1, numbers(21, -1)), (2, numbers(0, 13)), (3, PLACES_FAULTS), (4, WEIGHTS_FAULTS),
      (5, POLYNOMIAL_FAULTS))),
    (notation.fraction_text, ((2, 4),), ((0, FRACTION_FAULTS),)),
    (notation.polynomial_text, (((2, 4), (0, 1), (-1, 1)),), ((0, ((((1, 1), (1, 0)), "InvalidFraction", None),)),)),
    (notation.format_weighting, (LINE,), ()),
    (notation.parse_weighting, ("mass 0 1\nstretch 0 1 2",),
     ((0, (("mass 0 99\nmass 0 01", "InvalidText", None), ("mass 0 1\nmass 0 99", "InvalidWeighting", 1))),)),
    (codec.encode_weighting, (LINE,), ()),
    (codec.decode_weighting, ([113, 1, 0, 20, 2, 12],),
     ((0, (([113, 0, 0, 0], "DecodeError", None), (codec.encode_weighting(LINE) + [0], "DecodeError", None))),)),
)


def several_faults(checks):
    """Return all choices of faults, one or none of each check, at most one of an argument, but not none at all."""
    found = []
    for choice in itertools.product(*[(None, *faults) for _, faults in checks]):
        faults = [(at, fault) for (at, _), fault in zip(checks, choice) if fault is not None]
        if faults and len({at for at, _ in faults}) == len(faults):
            found.append(faults)
    return found


class WrongAtOnceTest(unittest.TestCase):
    def test_right_arguments(self):
        for call, right, _ in CASES:
            call(*right)

    def test_first_fault(self):
        for call, right, checks in CASES:
            for faults in several_faults(checks):
                arguments = list(right)
                for at, (worth, _, _) in faults:
                    arguments[at] = worth
                _, (_, name, index) = faults[0]
                with self.subTest(call=call.__name__, arguments=arguments[-3:]):
                    with self.assertRaises(getattr(errors, name)) as caught:
                        call(*arguments)
                    self.assertIs(type(caught.exception), getattr(errors, name))
                    if index is not None:
                        self.assertEqual(caught.exception.index, index)

    def test_every_function_is_here(self):
        listed = [name for functions in FUNCTIONS.values() for name in functions]
        here = [call.__name__ for call, _, _ in CASES] + ["moved", "mirrored", "joined", "run_script"]
        self.assertEqual(sorted(here), sorted(listed))


if __name__ == "__main__":
    unittest.main()
