"""Promises 14 to 16 of the second stage: balances, their operations together, and blocks."""

import unittest

from fewreadings.balances import Balance, Trial
from fewreadings.errors import (InvalidMass, InvalidMove, InvalidName, InvalidOperation, InvalidStretch, NoMass,
                                NothingLeft, ReadingError, UnknownKept)
from fewreadings.weightings import Weighting
from tests import oracle
from tests.model import Model, some_operation

START = (((-1, 3), (2, 4)), ((0, 3, 2),))
WRONG_OPERATIONS = (
    ["add", 1, 2], "undo", 5, None, (), ("add",), ("add", 1), ("add", 1, 2, 3), ("lay", 0, 1), ("lay", 0, 1, 2, 3),
    ("lift",), ("lift", 1, 2), ("move",), ("move", 1, 1), ("keep_as",), ("keep_as", "a", "b"), ("fetch",),
    ("fetch", "a", "b"), ("undo", 1), ("redo", 1), ("Add", 1, 2), ("apply_all", []), ("tried_out", [], True),
    ("replay", 1, 2), ("history",), ("whole_now",), (1, 2), (None,), (["add"], 1, 2), (("undo",),), ("",), ("hold",),
    {"add": 1},
)


def begun():
    return Balance(Weighting(*START))


def seen(balance):
    """Return all that a balance tells."""
    weighting = balance.weighting_now
    return (weighting.masses, weighting.stretches, balance.whole_now, balance.mean_now, balance.kept_under,
            balance.history)


def depths(balance):
    """Return how often a balance can be undone and redone, with all that it tells on the way, and leave it as it was."""
    back = []
    while balance.undo():
        back.append(seen(balance))
    for _ in back:
        balance.redo()
    ahead = []
    while balance.redo():
        ahead.append(seen(balance))
    for _ in ahead:
        balance.undo()
    return back, ahead


class BalancesTest(unittest.TestCase):
    def check_unchanged(self, balance, error, call, *arguments):
        """Check that a call raises an error and changes nothing, and return the error."""
        before = seen(balance), depths(balance)
        with self.subTest(call=call.__name__, arguments=arguments):
            with self.assertRaises(error) as caught:
                call(*arguments)
            self.assertIs(type(caught.exception), error)
            self.assertEqual((seen(balance), depths(balance)), before)
        return caught.exception

    def check_seen(self, balance, model):
        masses, stretches, kept = model.now()
        ascending = tuple(sorted(masses.items()))
        whole = oracle.sum_of_power(ascending, stretches, 0)
        self.assertEqual(balance.weighting_now.masses, ascending)
        self.assertEqual(balance.weighting_now.stretches, tuple(stretches))
        self.assertEqual(balance.whole_now, oracle.told(whole))
        self.assertEqual(balance.mean_now, oracle.told(oracle.sum_of_power(ascending, stretches, 1) / whole))
        self.assertEqual(balance.kept_under, sorted(kept))
        self.assertEqual(balance.history, model.effective)


class OperationsTest(BalancesTest):
    def test_begun(self):
        balance = begun()
        self.assertEqual(balance.weighting_now, Weighting(*START))
        self.assertEqual((balance.whole_now, balance.mean_now), ((13, 1), (14, 13)))
        self.assertEqual((balance.kept_under, balance.history), ([], []))
        self.assertIs(balance.undo(), False)
        self.assertIs(balance.redo(), False)

    def test_add(self):
        balance = begun()
        self.assertEqual(balance.add(5, 20), 20)
        self.assertEqual(balance.add(-1, 17), 20)
        self.assertEqual(balance.add(-20, 1), 1)
        self.assertEqual(balance.add(20, 1), 1)
        self.assertEqual(balance.add(0, 2), 2)
        self.assertEqual(balance.weighting_now.masses, ((-20, 1), (-1, 20), (0, 2), (2, 4), (5, 20), (20, 1)))
        # There are six masses, and a seventh place is too much, a place with a mass is not.
        self.check_unchanged(balance, InvalidMass, balance.add, 1, 1)
        self.assertEqual(balance.add(2, 16), 20)
        self.assertEqual(balance.history, [("add", 5, 20), ("add", -1, 17), ("add", -20, 1), ("add", 20, 1),
                                           ("add", 0, 2), ("add", 2, 16)])

    def test_wrong_masses(self):
        balance = begun()
        balance.add(1, 1)
        for place, mass in ((-21, 1), (21, 1), (0, 0), (0, -1), (0, 21), (2, 17), (-1, 18), (True, 1), (0, True),
                            ((0, 1), 1), (0, (1, 1)), (21, 21), (False, True)):
            self.check_unchanged(balance, InvalidMass, balance.add, place, mass)

    def test_lay(self):
        balance = Balance(Weighting(((0, 1),), ()))
        self.assertEqual(balance.lay(2, 4, 1), 1)
        self.assertEqual(balance.lay(-20, -19, 20), 2)
        self.assertEqual(balance.lay(0, 2, 3), 3)
        self.assertEqual(balance.lay(4, 20, 2), 4)
        self.assertEqual(balance.weighting_now.stretches, ((-20, -19, 20), (0, 2, 3), (2, 4, 1), (4, 20, 2)))
        self.check_unchanged(balance, InvalidStretch, balance.lay, -5, -4, 1)
        self.assertEqual(balance.history[2], ("lay", 0, 2, 3))

    def test_wrong_stretches(self):
        balance = begun()
        balance.lay(5, 7, 1)
        for low, high, height in ((-21, 0, 1), (19, 21, 1), (4, 4, 1), (5, 4, 1), (-2, -1, 0), (-2, -1, 21),
                                  (-1, 1, 1), (2, 4, 1), (1, 2, 1), (0, 3, 2), (-1, 4, 1), (3, 6, 1), (-20, 20, 1),
                                  (True, 5, 1), (-1, False, 1), (-2, -1, True), ((4, 1), 5, 1), (9, 8, 0)):
            self.check_unchanged(balance, InvalidStretch, balance.lay, low, high, height)
        self.assertEqual(balance.lay(3, 5, 1), 3)

    def test_lift(self):
        balance = begun()
        self.assertEqual(balance.lift(2), 4)
        self.assertEqual(balance.weighting_now.masses, ((-1, 3),))
        self.assertEqual(balance.lift(-1), 3)
        self.assertEqual(balance.weighting_now, Weighting((), START[1]))
        self.check_unchanged(balance, NoMass, balance.lift, -1)

    def test_wrong_lifts(self):
        balance = Balance(Weighting(((0, 1), (1, 2)), ()))
        for place in (2, -1, 21, 100, True, False, (0, 1)):
            self.check_unchanged(balance, NoMass, balance.lift, place)
        balance.lift(0)
        for place in (0, True):
            self.check_unchanged(balance, NoMass, balance.lift, place)
        self.check_unchanged(balance, NothingLeft, balance.lift, 1)

    def test_move(self):
        balance = begun()
        self.assertEqual(balance.move(17), (235, 1))
        self.assertEqual(balance.weighting_now, Weighting(((16, 3), (19, 4)), ((17, 20, 2),)))
        self.assertEqual(balance.move(-36), (-233, 1))
        self.assertEqual(balance.move(0), (-233, 1))
        self.assertEqual(balance.history, [("move", 17), ("move", -36), ("move", 0)])
        self.assertEqual(Balance(Weighting((), ((0, 1, 1),))).move(1), (3, 2))
        self.assertEqual(Balance(Weighting(((-20, 1),), ())).move(40), (20, 1))

    def test_wrong_moves(self):
        balance = begun()
        for shift in (18, -20, 41, -41, 1000, True, False, (1, 1), "1", None):
            self.check_unchanged(balance, InvalidMove, balance.move, shift)
        balance = Balance(Weighting(((3, 1),), ((-5, 0, 1),)))
        for shift in (18, -16):
            self.check_unchanged(balance, InvalidMove, balance.move, shift)
        balance = Balance(Weighting(((3, 1),), ((-5, 10, 1),)))
        self.check_unchanged(balance, InvalidMove, balance.move, 11)

    def test_keeping(self):
        balance = begun()
        self.assertIs(balance.keep_as("start"), False)
        balance.add(0, 1)
        self.assertIs(balance.keep_as("eightabz"), False)
        balance.lift(2)
        self.assertEqual(balance.kept_under, ["eightabz", "start"])
        self.assertEqual(balance.fetch("start"), (13, 1))
        self.assertEqual(balance.weighting_now, Weighting(*START))
        self.assertEqual(balance.fetch("eightabz"), (14, 1))
        self.assertIs(balance.keep_as("start"), True)
        balance.move(1)
        self.assertEqual(balance.fetch("start"), (14, 1))
        self.assertEqual(balance.fetch("start"), (14, 1))
        self.assertEqual(balance.kept_under, ["eightabz", "start"])
        self.assertEqual([word for word, *_ in balance.history],
                         ["keep_as", "add", "keep_as", "lift", "fetch", "fetch", "keep_as", "move", "fetch", "fetch"])

    def test_kept_and_undone(self):
        balance = begun()
        balance.keep_as("a")
        balance.add(7, 7)
        balance.keep_as("a")
        balance.undo()
        # What was kept under the name before is kept under it again.
        self.assertEqual(balance.fetch("a"), (13, 1))
        balance.undo()
        balance.undo()
        balance.undo()
        self.assertEqual(balance.kept_under, [])
        self.check_unchanged(balance, UnknownKept, balance.fetch, "a")
        self.assertIs(balance.redo(), True)
        self.assertEqual(balance.kept_under, ["a"])
        self.assertEqual(balance.fetch("a"), (13, 1))

    def test_wrong_names(self):
        balance = begun()
        balance.keep_as("a")
        for name in ("", "ninenines", "A", "a1", "a b", "a ", "\n", "a_", "\u00e4", "\u0430", 1, None, ("a",), b"a"):
            self.check_unchanged(balance, InvalidName, balance.keep_as, name)
            self.check_unchanged(balance, UnknownKept, balance.fetch, name)
        for name in ("b", "aa", "z" * 8):
            self.check_unchanged(balance, UnknownKept, balance.fetch, name)
            self.assertIs(balance.keep_as(name), False)

    def test_lists_are_new(self):
        balance = begun()
        balance.keep_as("a")
        balance.kept_under.append("b")
        balance.history.clear()
        self.assertEqual((balance.kept_under, balance.history), (["a"], [("keep_as", "a")]))

    def test_the_weighting_stays(self):
        weighting = Weighting(*START)
        one, other = Balance(weighting), Balance(weighting)
        one.apply_all([("add", 0, 1), ("lay", 5, 6, 1), ("move", 3), ("keep_as", "a")])
        self.assertEqual((weighting.masses, weighting.stretches), START)
        self.assertEqual(seen(other), seen(begun()))


class HistoryTest(BalancesTest):
    def test_both_ends(self):
        balance = begun()
        balance.add(0, 1)
        balance.add(0, 2)
        self.assertEqual([balance.redo(), balance.undo(), balance.undo(), balance.undo(), balance.undo()],
                         [False, True, True, False, False])
        self.assertEqual(seen(balance), seen(begun()))
        self.assertEqual([balance.redo(), balance.redo(), balance.redo()], [True, True, False])
        self.assertEqual(balance.history, [("add", 0, 1), ("add", 0, 2)])

    def test_order_of_redo(self):
        balance = begun()
        balance.add(0, 1)
        balance.lay(4, 5, 1)
        balance.undo()
        balance.undo()
        balance.redo()
        self.assertEqual(balance.history, [("add", 0, 1)])

    def test_executed_since(self):
        balance = begun()
        balance.add(0, 1)
        balance.add(1, 1)
        balance.undo()
        balance.move(1)
        self.assertIs(balance.redo(), False)
        self.assertEqual(balance.history, [("add", 0, 1), ("move", 1)])

    def test_failed_since(self):
        balance = begun()
        balance.add(0, 1)
        balance.undo()
        with self.assertRaises(NoMass):
            balance.lift(0)
        with self.assertRaises(NoMass):
            balance.apply_all([("add", 3, 1), ("lift", 0)])
        self.assertIs(balance.redo(), True)
        self.assertEqual(balance.history, [("add", 0, 1)])

    def test_keeping_is_an_operation(self):
        balance = begun()
        balance.add(0, 1)
        balance.undo()
        balance.keep_as("a")
        self.assertIs(balance.redo(), False)

    def test_long_histories(self):
        for seed in range(51, 57):
            source = oracle.source_of(seed)
            masses, stretches = oracle.some_weighting(source) if seed % 2 else START
            balance, model = Balance(Weighting(masses, stretches)), Model(masses, stretches)
            failed = 0
            for _ in range(120):
                operation = some_operation(source, 8)
                word, *arguments = operation
                try:
                    wanted = model.execute(operation)
                except ReadingError as error:
                    failed += 1
                    with self.assertRaises(type(error)):
                        getattr(balance, word)(*arguments)
                else:
                    found = getattr(balance, word)(*arguments)
                    self.assertEqual((found, type(found)), (wanted, type(wanted)))
                self.check_seen(balance, model)
            self.assertGreater(failed, 5)
            while model.execute(("undo",)):
                self.assertIs(balance.undo(), True)
                self.check_seen(balance, model)
            self.assertIs(balance.undo(), False)
            while model.execute(("redo",)):
                self.assertIs(balance.redo(), True)
                self.check_seen(balance, model)
            self.assertIs(balance.redo(), False)

    def test_full_balance(self):
        operations = [("add", place, 20) for place in (-3, -2, -1, 0, 1)]
        operations += [("lay", low, low + 1, 20) for low in (-9, -7, 8, 4)]
        operations += [("move", 1), ("move", -1)] * 12
        balance = Balance(Weighting(((5, 1),), ()))
        results = balance.apply_all(operations)
        self.assertEqual(len(balance.history), 33)
        self.assertEqual((len(balance.weighting_now.masses), len(balance.weighting_now.stretches)), (6, 4))
        full = seen(balance)
        self.check_unchanged(balance, InvalidMass, balance.add, 18, 1)
        self.check_unchanged(balance, InvalidStretch, balance.lay, 18, 19, 1)
        self.assertEqual(balance.apply_all([("undo",)] * 34), [True] * 33 + [False])
        self.assertEqual(balance.weighting_now, Weighting(((5, 1),), ()))
        self.assertEqual(balance.apply_all([("redo",)] * 34), [True] * 33 + [False])
        self.assertEqual(seen(balance), full)
        self.assertEqual(Balance(Weighting(((5, 1),), ())).apply_all(balance.history), results)


class TogetherTest(BalancesTest):
    def test_results(self):
        balance = begun()
        found = balance.apply_all([("undo",), ("add", 2, 1), ("keep_as", "a"), ("undo",), ("redo",), ("redo",),
                                   ("lift", 2), ("fetch", "a"), ("undo",)])
        self.assertEqual(found, [False, 5, False, True, True, False, 5, (14, 1), True])
        self.assertEqual(balance.history, [("add", 2, 1), ("keep_as", "a"), ("lift", 2)])
        self.assertEqual(balance.apply_all([]), [])

    def test_nothing_keeps_redo(self):
        balance = begun()
        balance.add(0, 1)
        balance.undo()
        balance.apply_all([])
        self.assertIs(balance.redo(), True)

    def test_list_is_not_kept(self):
        balance = begun()
        operations = [("add", 0, 1), ("add", 1, 1)]
        results = balance.apply_all(operations)
        operations.clear()
        results.clear()
        self.assertEqual(balance.history, [("add", 0, 1), ("add", 1, 1)])

    def test_failed(self):
        balance = begun()
        balance.apply_all([("add", 0, 1), ("keep_as", "a"), ("add", 0, 1), ("undo",)])
        for operations, error in (
                ([("add", 5, 1), ("lift", 6)], NoMass),
                ([("undo",), ("undo",), ("undo",), ("fetch", "a")], UnknownKept),
                ([("redo",), ("move", 30)], InvalidMove),
                ([("keep_as", "b"), ("keep_as", "")], InvalidName),
                ([("lay", 4, 5, 1), ("lay", 4, 5, 1), ("lift", 77)], InvalidStretch),
                ([("add", 0, 19), ("add", 0, 19)], InvalidMass),
                ([("keep_as", "a"), ("undo",), ("fetch", "zz")], UnknownKept)):
            self.check_unchanged(balance, error, balance.apply_all, operations)
            self.check_unchanged(balance, error, balance.tried_out, operations, True)
            self.check_unchanged(balance, error, balance.tried_out, operations, False)

    def test_no_operations(self):
        balance = begun()
        balance.add(0, 1)
        balance.undo()
        for wrong in WRONG_OPERATIONS:
            for operations, index in (([wrong], 0), ([("add", 5, 1), wrong, wrong], 1),
                                      ([("redo",), ("lift", 99), wrong, ("add",)], 2)):
                for call, rest in ((balance.apply_all, ()), (balance.tried_out, (True,)),
                                   (balance.tried_out, (False,))):
                    caught = self.check_unchanged(balance, InvalidOperation, call, operations, *rest)
                    self.assertEqual(caught.index, index)
                with self.assertRaises(InvalidOperation) as caught:
                    Balance.replay(Weighting(*START), operations)
                self.assertEqual(caught.exception.index, index)

    def test_every_name(self):
        balance = begun()
        balance.apply_all([("add", 0, 1), ("lay", 5, 6, 1), ("lift", 0), ("move", 1), ("keep_as", "a"),
                           ("fetch", "a"), ("undo",), ("redo",)])
        self.assertEqual(len(balance.history), 6)

    def test_many(self):
        source = oracle.source_of(58)
        balance, model = begun(), Model(*START)
        failed = done = 0
        for _ in range(200):
            operations = [some_operation(source, 9) for _ in range(source.randint(0, 6))]
            way = source.choice(("apply_all", "kept", "tried"))
            saved = model.saved()
            try:
                wanted = [model.execute(operation) for operation in operations]
            except ReadingError as error:
                failed += 1
                model.restore(saved)
                with self.assertRaises(type(error)):
                    if way == "apply_all":
                        balance.apply_all(operations)
                    else:
                        balance.tried_out(operations, way == "kept")
            else:
                done += 1
                if way == "apply_all":
                    found = balance.apply_all(operations)
                else:
                    found = balance.tried_out(operations, way == "kept")
                self.assertEqual(found, wanted)
                if way == "tried":
                    model.restore(saved)
            self.check_seen(balance, model)
        self.assertGreater(min(failed, done), 40)

    def test_replay(self):
        weighting = Weighting(*START)
        operations = [("add", 0, 1), ("undo",), ("lay", 5, 6, 1), ("keep_as", "a"), ("undo",)]
        balance = Balance.replay(weighting, operations)
        self.assertIsInstance(balance, Balance)
        self.assertEqual(balance.history, [("lay", 5, 6, 1)])
        self.assertIs(balance.redo(), True)
        self.assertEqual(balance.kept_under, ["a"])
        self.assertEqual(seen(Balance.replay(weighting, [])), seen(begun()))
        self.assertEqual(seen(Balance.replay(weighting, balance.history)), seen(balance))
        with self.assertRaises(NoMass):
            Balance.replay(weighting, [("lift", 0)])

    def test_tried_out(self):
        balance = begun()
        balance.add(0, 1)
        balance.undo()
        before = seen(balance), depths(balance)
        operations = [("redo",), ("add", 0, 1), ("keep_as", "a"), ("undo",)]
        self.assertEqual(balance.tried_out(operations, False), [True, 2, False, True])
        self.assertEqual((seen(balance), depths(balance)), before)
        self.assertEqual(balance.tried_out(operations, True), [True, 2, False, True])
        self.assertEqual(balance.history, [("add", 0, 1), ("add", 0, 1)])
        self.assertEqual([balance.redo(), balance.kept_under], [True, ["a"]])
        self.assertEqual(operations, [("redo",), ("add", 0, 1), ("keep_as", "a"), ("undo",)])


class TrialTest(BalancesTest):
    def test_not_held(self):
        balance = begun()
        balance.apply_all([("add", 0, 1), ("add", 1, 1), ("undo",)])
        before = seen(balance), depths(balance)
        with Trial(balance) as trial:
            self.assertIsInstance(trial, Trial)
            balance.move(1)
            balance.keep_as("a")
            self.assertEqual(balance.kept_under, ["a"])
        self.assertEqual((seen(balance), depths(balance)), before)
        with Trial(balance):
            balance.undo()
            balance.undo()
        self.assertEqual((seen(balance), depths(balance)), before)
        with Trial(balance):
            balance.redo()
        self.assertEqual((seen(balance), depths(balance)), before)

    def test_held(self):
        balance = begun()
        with Trial(balance) as trial:
            balance.add(0, 1)
            trial.hold()
            balance.add(1, 1)
            balance.undo()
        self.assertEqual(balance.history, [("add", 0, 1)])
        self.assertIs(balance.redo(), True)

    def test_errors(self):
        balance = begun()
        before = seen(balance), depths(balance)
        for error in (NoMass, KeyError, KeyboardInterrupt):
            with self.assertRaises(error):
                with Trial(balance):
                    balance.add(0, 1)
                    raise error
            self.assertEqual((seen(balance), depths(balance)), before)
        with self.assertRaises(NoMass):
            with Trial(balance) as trial:
                balance.add(0, 1)
                trial.hold()
                balance.lift(77)
        self.assertEqual(balance.history, [("add", 0, 1)])

    def test_left_early(self):
        balance = begun()

        def leave():
            with Trial(balance):
                return balance.add(0, 1)

        self.assertEqual(leave(), 1)
        self.assertEqual(balance.history, [])

    def test_block_within_a_block(self):
        for outer_held in (False, True):
            for inner_held in (False, True):
                balance = begun()
                with Trial(balance) as outer:
                    balance.add(0, 1)
                    with Trial(balance) as inner:
                        balance.add(1, 1)
                        if inner_held:
                            inner.hold()
                    self.assertEqual(len(balance.history), 1 + inner_held)
                    balance.move(1)
                    if outer_held:
                        outer.hold()
                wanted = [("add", 0, 1)] + [("add", 1, 1)] * inner_held + [("move", 1)]
                self.assertEqual(balance.history, wanted if outer_held else [])

    def test_outer_held_in_the_inner_block(self):
        balance = begun()
        with Trial(balance) as outer:
            balance.add(0, 1)
            with Trial(balance):
                balance.add(1, 1)
                outer.hold()
        self.assertEqual(balance.history, [("add", 0, 1)])

    def test_lists_of_operations_in_a_block(self):
        balance = begun()
        with Trial(balance):
            balance.apply_all([("add", 0, 1), ("add", 1, 1)])
            balance.tried_out([("move", 1)], True)
            with self.assertRaises(NoMass):
                balance.apply_all([("add", 4, 1), ("lift", 77)])
            self.assertEqual(len(balance.history), 3)
        self.assertEqual(balance.history, [])

    def test_beginning_of_the_block(self):
        balance = begun()
        trial = Trial(balance)
        trial.hold()
        balance.add(0, 1)
        with trial:
            balance.add(1, 1)
        self.assertEqual(balance.history, [("add", 0, 1)])
        trial.hold()
        # The same trial once more, held and then not.
        with trial:
            balance.add(1, 1)
            trial.hold()
        with trial:
            balance.add(3, 1)
        self.assertEqual(balance.history, [("add", 0, 1), ("add", 1, 1)])

    def test_two_balances(self):
        one, other = begun(), begun()
        with Trial(one):
            one.add(0, 1)
            other.add(0, 1)
        self.assertEqual((one.history, other.history), ([], [("add", 0, 1)]))


if __name__ == "__main__":
    unittest.main()
