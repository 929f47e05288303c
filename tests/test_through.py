"""Promise 11 of the third stage: weightings and balances behind texts, codes and scripts tell the same."""

import unittest

from fewreadings.balances import Balance
from fewreadings.codec import decode_weighting, encode_weighting
from fewreadings.misses import first_gap, heavy_places, sum_by
from fewreadings.notation import format_weighting, fraction_text, parse_weighting
from fewreadings.readers import Reader
from fewreadings.roots import fewest_places, root_floors, root_polynomial, steps
from fewreadings.rules import bar, best_degree, weights_for
from fewreadings.scripts import run_script
from fewreadings.weightings import Weighting, mean, mirrored, power_sums, total
from tests import oracle
from tests.model import some_operation
from tests.test_balances import depths, seen
from tests.test_readers import all_told


def rebuilt(source, masses, stretches):
    """Return rows that make a weighting of one mass at 0, in any order of its masses and stretches."""
    rows = [f"add {place} {mass}" for place, mass in masses] + [f"lay {low} {high} {height}"
                                                                 for low, high, height in stretches]
    source.shuffle(rows)
    # Seven places at once are too many, so that the mass is lifted as soon as there is anything else.
    there = dict(masses).get(0)
    rows = [row for row in rows if not row.startswith("add 0 ")]
    if there is None:
        return rows[:1] + ["lift 0"] + rows[1:]
    return rows + (["lift 0", f"add 0 {there}"] if rows else [f"add 0 {there - 1}"] * (there > 1))


def told(weighting, source_seed):
    """Return much of what the package tells of a weighting, always of the same places and readings by a seed."""
    source = oracle.source_of(source_seed)
    places = oracle.some_places(source, ((0, 1), (3, 1), (-4, 1)))
    weights, readings = oracle.some_weights(source, len(places)), oracle.some_readings(source, len(places))
    polynomial = oracle.some_polynomial(source)
    reader = Reader(weighting, places, len(places) - 1)
    for index, reading in enumerate(readings):
        reader.seen(index, reading)
    found = [weighting.masses, weighting.stretches, power_sums(weighting, 12), total(weighting, polynomial),
             mean(weighting, polynomial), weights_for(weighting, places), best_degree(weighting, places),
             bar(weighting, places), first_gap(weighting, places, weights), heavy_places(weighting, places),
             sum_by(weighting, places, readings), fewest_places(weighting, 11), all_told(reader),
             mirrored(weighting).masses, format_weighting(weighting), encode_weighting(weighting)]
    count = 6 if weighting.stretches else len(weighting.masses)
    return found + [root_polynomial(weighting, count), steps(weighting, count), root_floors(weighting, count, 100)]


class WeightingsTest(unittest.TestCase):
    def test_same_is_told(self):
        for seed in range(60):
            source = oracle.source_of(5000 + seed)
            masses, stretches = oracle.some_weighting(source)
            weighting = Weighting(masses, stretches)
            wanted = told(weighting, seed)
            balance, output = run_script(Weighting(((0, 1),), ()),
                                         "\n".join([*rebuilt(source, masses, stretches), "show", "mean"]))
            for found in (parse_weighting(format_weighting(weighting)), decode_weighting(encode_weighting(weighting)),
                          decode_weighting(encode_weighting(parse_weighting(format_weighting(weighting)))),
                          balance.weighting_now):
                self.assertEqual(found, weighting)
                self.assertEqual(told(found, seed), wanted)
            self.assertEqual(output, [fraction_text(balance.whole_now), fraction_text(balance.mean_now)])
            self.assertEqual(wanted[2][0], balance.whole_now)


class BalancesTest(unittest.TestCase):
    def test_same_operations(self):
        for seed in range(60):
            source = oracle.source_of(5100 + seed)
            weighting = Weighting(*oracle.some_weighting(source))
            others = [parse_weighting(format_weighting(weighting)), decode_weighting(encode_weighting(weighting))]
            balances = [Balance(one) for one in (weighting, *others)]
            for _ in range(25):
                word, *arguments = some_operation(source, 9)
                results = []
                for balance in balances:
                    try:
                        results.append(getattr(balance, word)(*arguments))
                    except ValueError as error:
                        results.append(type(error))
                self.assertEqual(results, results[:1] * 3)
                self.assertEqual(seen(balances[1]), seen(balances[0]))
                self.assertEqual(seen(balances[2]), seen(balances[0]))
            self.assertEqual(depths(balances[1]), depths(balances[0]))
            now = balances[0].weighting_now
            self.assertEqual(parse_weighting(format_weighting(now)), now)
            self.assertEqual(decode_weighting(encode_weighting(now)), now)

    def test_histories_as_scripts(self):
        replayed = 0
        for seed in range(60):
            source = oracle.source_of(5200 + seed)
            weighting = Weighting(*oracle.some_weighting(source))
            balance = Balance(weighting)
            for _ in range(30):
                word, *arguments = some_operation(source, 10)
                if word in ("add", "lay", "lift", "move"):
                    try:
                        getattr(balance, word)(*arguments)
                    except ValueError:
                        pass
            rows = [" ".join(map(str, operation)) for operation in balance.history]
            replayed += len(rows)
            found, output = run_script(parse_weighting(format_weighting(weighting)), "\n".join([*rows, "show", "mean"]))
            self.assertEqual((seen(found), depths(found)), (seen(balance), depths(balance)))
            self.assertEqual(output, [fraction_text(balance.whole_now), fraction_text(balance.mean_now)])
            other = Balance.replay(decode_weighting(encode_weighting(weighting)), found.history)
            self.assertEqual(seen(other), seen(balance))
        self.assertGreater(replayed, 300)


if __name__ == "__main__":
    unittest.main()
