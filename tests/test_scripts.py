"""Promises 7 and 8 of the third stage: scripts, what they do to balances, and scripts that are none or fail."""

import unittest

from fewreadings import errors
from fewreadings.balances import Balance, Trial
from fewreadings.errors import ExecutionFailed, ScriptError, TooLong
from fewreadings.notation import fraction_text
from fewreadings.scripts import run_script
from fewreadings.weightings import Weighting
from tests import oracle, script_model
from tests.test_balances import depths, seen
from tests.test_notation import WRONG_NUMBERS

START = (((-1, 3), (2, 4)), ((0, 3, 2),))


def begun():
    return Weighting(*START)


class ScriptsTest(unittest.TestCase):
    def check_error(self, error, row, *lines, weighting=None):
        weighting = weighting or begun()
        parts = weighting.masses, weighting.stretches
        with self.subTest(lines=lines):
            with self.assertRaises(error) as caught:
                run_script(weighting, "\n".join(lines))
            self.assertIs(type(caught.exception), error)
            if row is not None:
                self.assertEqual(caught.exception.row, row)
            self.assertEqual((weighting.masses, weighting.stretches), parts)

    def check_run(self, output, history, *lines):
        """Check what a script writes, and that its balance is as one with this history."""
        with self.subTest(lines=lines):
            balance, found = run_script(begun(), "\n".join(lines))
            self.assertEqual(found, output)
            other = Balance.replay(begun(), history)
            self.assertEqual((seen(balance), depths(balance)), (seen(other), depths(other)))
        return balance


class RunTest(ScriptsTest):
    def test_no_rows(self):
        balance, output = run_script(begun(), "")
        self.assertEqual((output, balance.history, balance.weighting_now), ([], [], begun()))
        self.assertIs(type(run_script(begun(), "")), tuple)
        self.assertIs(type(balance), Balance)

    def test_each_row(self):
        self.check_run([], [("add", 0, 5)], "add 0 5")
        self.check_run([], [("lay", -20, -10, 20)], "lay -20 -10 20")
        self.check_run([], [("lift", 2)], "lift 2")
        self.check_run([], [("move", -19)], "move -19")
        self.check_run(["13"], [], "show")
        self.check_run(["14/13"], [], "mean")
        self.check_run([], [("move", 0)], "repeat 1", "move 0", "end")
        self.check_run([], [("move", 0)], "when -1", "move 0", "end")

    def test_row_by_row(self):
        self.check_run(["13", "12", "7/4", "-1/4", "8", "-11/8"],
                       [("add", 0, 1), ("lift", 0), ("lift", -1), ("add", 2, 2), ("move", -2), ("lift", 0),
                        ("add", -4, 2)],
                       "show", "add 0 1", "lift 0", "lift -1", "add 2 2", "show", "mean", "move -2", "mean", "lift 0",
                       "add -4 2", "show", "mean")

    def test_repeats(self):
        self.check_run([], [], "repeat 0", "lift 17", "end")
        self.check_run([], [], "repeat 0", "end")
        self.check_run([], [], "repeat 99", "end")
        self.check_run(["13"] * 3, [], "repeat 3", "show", "end")
        self.check_run(["15", "17", "19"], [("add", 5, 2)] * 3, "repeat 3", "add 5 2", "show", "end")
        self.check_run(["13"] * 6, [("move", 0)] * 2, "repeat 2", "repeat 3", "show", "end", "move 0", "end")
        self.check_run([], [], "repeat 3", "repeat 0", "lift 17", "end", "end")

    def test_when(self):
        self.check_run([], [], "when 0", "lift 17", "end")
        self.check_run([], [], "when 99", "lift 17", "end", "when -99", "lift 17", "end")
        self.check_run([], [], "when 2", "end", "when 1", "end")
        # The mass is sought when the row is executed; a stretch is none.
        self.check_run(["13", "9", "9"], [("lift", 2)],
                       "repeat 3", "show", "when 2", "lift 2", "end", "end")
        self.check_run(["14"], [("add", 1, 1), ("lift", 2), ("add", 2, 4), ("lift", 1)],
                       "when 1", "lift 1", "end", "add 1 1", "when 1", "lift 2", "when 2", "lift 17", "end", "add 2 4",
                       "show", "end", "lift 1")

    def test_four_deep(self):
        self.check_run(["13"] * 4, [], "repeat 2", "when 2", "repeat 2", "when -1", "show", "end", "end", "end", "end")
        self.check_run(["13"] * 3, [], "repeat 3", "repeat 1", "repeat 1", "repeat 1", "show", *["end"] * 4)
        # Blocks one behind another one are not deeper.
        self.check_run(["13"] * 5, [], *["repeat 1", "show", "end"] * 5)

    def test_operations_of_the_balance(self):
        lines = ["add 0 1", "show", "repeat 2", "move 1", "mean", "end", "lift 4", "lay -2 -1 3"]
        history = [("add", 0, 1), ("move", 1), ("move", 1), ("lift", 4), ("lay", -2, -1, 3)]
        balance = self.check_run(["14", "2", "3"], history, *lines)
        self.assertEqual(balance.history, history)
        for operation in history[::-1]:
            self.assertEqual(balance.history[-1], operation)
            self.assertIs(balance.undo(), True)
        self.assertIs(balance.undo(), False)
        self.assertEqual(balance.weighting_now, begun())
        self.assertIs(balance.redo(), True)
        self.assertEqual((balance.add(0, 4), balance.redo()), (5, False))
        with Trial(balance):
            balance.keep_as("a")
        self.assertEqual((balance.history, balance.kept_under), ([("add", 0, 1), ("add", 0, 4)], []))

    def test_asked_again(self):
        text = "add 0 1\nrepeat 2\nshow\nend"
        weighting = begun()
        balance, output = run_script(weighting, text)
        output.append("1")
        balance.lift(0)
        other, once_more = run_script(weighting, text)
        self.assertEqual((once_more, other.history), (["14", "14"], [("add", 0, 1)]))
        self.assertIs(type(once_more), list)
        self.assertEqual(weighting, begun())

    def check_as_model(self, masses, stretches, text):
        """Check a script against the model, and return the name of its error, "" if there is none."""
        weighting = Weighting(masses, stretches)
        try:
            model = script_model.run(masses, stretches, text)
        except script_model.Failed as failed:
            name, row = failed.args
            self.check_error(getattr(errors, name), row, *text.split("\n"), weighting=weighting)
            return name
        with self.subTest(text=text):
            balance, output = run_script(weighting, text)
            self.assertEqual((output, balance.history), (model.output, model.balance.effective))
            now, heights, _ = model.balance.now()
            self.assertEqual(balance.weighting_now, Weighting(tuple(sorted(now.items())), tuple(heights)))
        return ""

    def test_against_model(self):
        found = []
        for seed in range(400):
            source = oracle.source_of(2000 + seed)
            masses, stretches = START if seed % 2 else oracle.some_weighting(source)
            rows = script_model.some_rows(source, source.randint(1, 12))
            if seed % 4 == 0:
                at = source.randrange(len(rows) + 1)
                rows[at:at + source.randint(0, 1)] = [source.choice((
                    "end", "repeat 2", "when 0", "repeat -1", "show 1", "add 1", "add 1 99", "lift +1", "", "show "))]
            found.append(self.check_as_model(masses, stretches, "\n".join(rows)))
        for name, least in (("", 50), ("ExecutionFailed", 50), ("ScriptError", 20)):
            self.assertGreater(found.count(name), least, name)

    def test_long_ones_against_model(self):
        found = []
        for seed in range(60):
            source = oracle.source_of(2600 + seed)
            inner = [source.choice((("show",), ("mean",), ("move 0",), ("when 2", "show", "end"), ("repeat 2", "end"),
                                    ("when 0", "mean", "end"), ("when 2", "repeat 3", "show", "end", "end")))
                     for _ in range(source.randint(1, 4))]
            inner = [row for part in inner for row in part]
            rows = [f"repeat {source.randint(5, 20)}", "repeat 4", *inner, "end", "end"]
            found.append(self.check_as_model(*START, "\n".join(rows)))
        self.assertGreater(found.count("TooLong"), 15)
        self.assertGreater(found.count(""), 15)

    def test_repeats_written_out(self):
        compared = 0
        for seed in range(200):
            source = oracle.source_of(3000 + seed)
            rows = script_model.some_rows(source, source.randint(1, 8))
            other = script_model.written_out(script_model.tree_of(rows))
            if len(rows) > 60 or len(other) > 60 or script_model.wrong_row(rows) is not None:
                continue
            try:
                balance, output = run_script(begun(), "\n".join(rows))
            except ExecutionFailed:
                with self.assertRaises(ExecutionFailed):
                    run_script(begun(), "\n".join(other))
                continue
            compared += any(row.startswith("repeat") for row in rows)
            found, lines = run_script(begun(), "\n".join(other))
            self.assertEqual((lines, seen(found)), (output, seen(balance)))
        self.assertGreater(compared, 20)

    def test_rows_worked_on_one_by_one(self):
        for seed in range(100):
            source = oracle.source_of(3300 + seed)
            rows = [script_model.some_row(source) for _ in range(12)]
            balance, output, failed = Balance(begun()), [], None
            for index, row in enumerate(rows):
                word, *numbers = row.split(" ")
                try:
                    if word == "show":
                        output.append(fraction_text(balance.whole_now))
                    elif word == "mean":
                        output.append(fraction_text(balance.mean_now))
                    else:
                        getattr(balance, word)(*map(int, numbers))
                except errors.ReadingError:
                    failed = index
                    break
            if failed is not None:
                self.check_error(ExecutionFailed, failed, *rows)
                rows = rows[:failed]
            found, lines = run_script(begun(), "\n".join(rows))
            self.assertEqual((seen(found), lines), (seen(balance), output))


class FailedTest(ScriptsTest):
    def test_rows_that_fail(self):
        for row in ("add 21 1", "add 99 99", "add 0 0", "add 0 -1", "add 0 21", "add 2 17", "lay 0 1 1", "lay 5 5 1",
                    "lay 6 5 1", "lay 20 21 1", "lay 5 6 0", "lay 5 6 21", "lift 0", "lift -99", "move 18", "move -20",
                    "move 99"):
            self.check_error(ExecutionFailed, 0, row)
            self.check_error(ExecutionFailed, 2, "show", "mean", row, "lift 2")
            self.check_error(ExecutionFailed, 3, "repeat 2", "when 2", "move 0", row, "end", "end")

    def test_nothing_left(self):
        single = Weighting(((0, 2),), ())
        self.check_error(ExecutionFailed, 0, "lift 0", weighting=single)
        self.check_error(ExecutionFailed, 2, "lay 0 1 1", "lift 0", "lift 0", weighting=single)

    def test_seventh_place_and_fifth_stretch(self):
        self.check_error(ExecutionFailed, 4, "add 5 1", "add 6 1", "add 7 1", "add 8 1", "add 9 1")
        self.check_error(ExecutionFailed, 3, "lay 5 6 1", "lay 6 7 1", "lay 7 8 1", "lay 8 9 1")

    def test_later_in_a_block(self):
        # The row fails when it is executed once more.
        self.check_error(ExecutionFailed, 1, "repeat 18", "add 2 1", "end")
        self.check_run([], [("add", 2, 1)] * 16, "repeat 16", "add 2 1", "end")
        self.check_error(ExecutionFailed, 2, "repeat 2", "show", "lift 2", "end")
        self.check_error(ExecutionFailed, 5, "repeat 3", "when 2", "lift 2", "end", "show", "lift 2", "end")

    def test_not_executed(self):
        self.check_run([], [], "repeat 0", "lift 0", "end", "when 0", "add 99 99", "end")

    def test_first_of_several(self):
        self.check_error(ExecutionFailed, 1, "show", "lift 0", "lift 1")
        # A row that is none is told ahead of all that fails.
        self.check_error(ScriptError, 2, "lift 0", "lift 1", "lift")
        self.check_error(ScriptError, 1, "lift 0", "end")
        self.check_error(ScriptError, 2, "lift 0", "repeat 1")


class StepsTest(ScriptsTest):
    def test_300_steps(self):
        # 1 + 99 * 2, and 1 + 50 * 2.
        lines = ("repeat 99", "show", "end", "repeat 50", "show", "end")
        self.check_run(["13"] * 149, [], *lines)
        for more in (("show",), ("mean",), ("add 0 1",), ("repeat 0", "end"), ("when 2", "end"),
                     ("when 0", "show", "end"), ("lift 17",)):
            self.check_error(TooLong, None, *lines, *more)

    def test_rounds_are_steps(self):
        # 1 + 99 * 2 steps, and 1 + 99 for rounds without rows.
        first = ("repeat 99", "show", "end")
        self.check_run(["13"] * 99, [], *first, "repeat 99", "end", "repeat 0", "end")
        self.check_error(TooLong, None, *first, "repeat 99", "end", "repeat 1", "end")
        self.check_run(["13"] * 100, [], *first, "repeat 99", "end", "show")
        self.check_error(TooLong, None, *first, "repeat 99", "end", "show", "show")

    def test_ends_are_no_steps(self):
        # Each round has a step of its own and two for its rows: 1 + 49 * 3 = 148.
        lines = ["repeat 49", "when 2", "when 2", "end", "end", "end"] * 2 + ["show"] * 4
        self.check_run(["13"] * 4, [], *lines)
        self.check_error(TooLong, None, *lines, "show")

    def test_when_is_one_step(self):
        # 1 + 99 * 3 = 298 steps if the rows of a when are executed, 1 + 99 * 2 if they are not.
        self.check_run(["13"] * 101, [], "repeat 99", "when 2", "show", "end", "end", "show", "show")
        self.check_error(TooLong, None, "repeat 99", "when 2", "show", "end", "end", "show", "show", "show")
        self.check_run(["13"] * 50, [], "repeat 99", "when 0", "show", "end", "end", *["show"] * 50)

    def test_long_or_failed(self):
        lines = ("repeat 99", "show", "end", "repeat 49", "show", "end")
        # 298 steps; a row that fails as the 300th is executed, as the 301st it is not.
        self.check_error(ExecutionFailed, 7, *lines, "show", "lift 17", "show")
        self.check_error(TooLong, None, *lines, "show", "show", "lift 17")
        self.check_error(TooLong, None, *lines, "repeat 1", "lift 17", "end")
        self.check_error(TooLong, None, "repeat 99", "repeat 99", "show", "end", "end", "lift 17")
        self.check_error(ScriptError, 5, "repeat 99", "repeat 99", "show", "end", "end", "lift")

    def test_rounds_within_rounds(self):
        # The inner repeat takes 1 + 9 * 2 = 19 steps, the outer one 1 + 14 * (1 + 19) = 281.
        lines = ("repeat 14", "repeat 9", "show", "end", "end")
        self.check_run(["13"] * (14 * 9 + 19), [], *lines, *["show"] * 19)
        self.check_error(TooLong, None, *lines, *["show"] * 20)
        self.check_error(TooLong, None, "repeat 15", *lines[1:])


class WrongScriptTest(ScriptsTest):
    def test_first_words(self):
        for row in ("", " ", "Add 0 1", "adds 0 1", "undo", "redo", "keep_as a", "fetch a", "mass 0 1", "stretch 0 1 1",
                    "0", "END", "else", "hold", "show\r", "\tshow", "#", "lay0 1 1"):
            self.check_error(ScriptError, 0, row, "lift 17")
            self.check_error(ScriptError, 1, "show", row)
            self.check_error(ScriptError, 2, "repeat 0", "show", row, "end")

    def test_line_feeds(self):
        for text, row in (("\n", 0), ("show\n", 1), ("\nshow", 0), ("show\n\nshow", 1), ("show\n\n", 1),
                          ("show\r\nshow", 0)):
            self.check_error(ScriptError, row, text)

    def test_blanks(self):
        for row in ("show ", " show", "add  0 1", "add 0  1", "add 0 1 ", " add 0 1", "end ", "repeat 1 ", "repeat  1",
                    "lay 0 1\t2", "move\t1"):
            self.check_error(ScriptError, 1, "show", row)

    def test_counts_of_words(self):
        for row in ("add", "add 0", "add 0 1 2", "lay", "lay 0", "lay 0 1", "lay 5 6 1 1", "lift", "lift 0 1", "move",
                    "move 0 0", "show 0", "mean 0", "repeat", "repeat 1 1", "when", "when 0 0", "show show"):
            self.check_error(ScriptError, 0, row)
            self.check_error(ScriptError, 1, "show", row, "end")
        self.check_error(ScriptError, 1, "repeat 1", "end 1")
        self.check_error(ScriptError, 1, "repeat 1", "end end")

    def test_numbers(self):
        for number in WRONG_NUMBERS:
            if "\n" not in number:
                for row in (f"add {number} 1", f"add 0 {number}", f"lay {number} 5 1", f"lay 4 {number} 1",
                            f"lay 4 5 {number}", f"lift {number}", f"move {number}"):
                    self.check_error(ScriptError, 1, "show", row)
                for row in (f"repeat {number}", f"when {number}"):
                    self.check_error(ScriptError, 1, "show", row, "end")

    def test_repeats_below_0(self):
        for number in (-1, -2, -99):
            self.check_error(ScriptError, 0, f"repeat {number}", "end")
            self.check_error(ScriptError, 1, "repeat 0", f"repeat {number}", "end", "end")

    def test_numbers_out_of_range_are_rows(self):
        self.check_error(ScriptError, 5, "add 99 99", "lay 99 -99 -1", "lift -99", "move 99", "when 99", "x")

    def test_ends_too_many(self):
        self.check_error(ScriptError, 0, "end")
        self.check_error(ScriptError, 3, "repeat 1", "show", "end", "end")
        self.check_error(ScriptError, 4, "when 0", "repeat 0", "end", "end", "end", "repeat 1")

    def test_ends_lacking(self):
        self.check_error(ScriptError, 1, "repeat 0")
        self.check_error(ScriptError, 2, "repeat 0", "show")
        self.check_error(ScriptError, 3, "when 0", "repeat 0", "end")
        self.check_error(ScriptError, 4, "lift 17", "when 0", "when 0", "repeat 1")

    def test_blocks_too_deep(self):
        deep = ("repeat 0", "when 0", "repeat 0", "when 0")
        for opening in ("repeat 1", "when 2"):
            self.check_error(ScriptError, 4, *deep, opening)
            self.check_error(ScriptError, 5, *deep, "show", opening, "end", "end", "end", "end", "end")
            self.check_error(ScriptError, 6, *deep, "end", opening, opening, "end", "end", "end", "end", "end")
        self.check_run([], [], *deep, "end", "when 0", "end", "end", "end", "end")
        self.check_error(ScriptError, 4, *deep)

    def test_too_many_rows(self):
        self.check_run(["13"] * 60, [], *["show"] * 60)
        self.check_run([], [], *["repeat 0", "end"] * 30)
        for count in (61, 62, 200):
            self.check_error(ScriptError, 60, *["show"] * count)
        self.check_error(ScriptError, 60, *["show"] * 60, "x", "y")
        self.check_error(ScriptError, 60, *["show"] * 60, "")
        self.check_error(ScriptError, 59, *["show"] * 59, "x", "show")
        self.check_error(ScriptError, 60, "repeat 0", *["show"] * 59, "end")
        self.check_error(ScriptError, 60, "repeat 0", *["show"] * 59)
        self.check_error(ScriptError, 60, "repeat 0", *["lift 17"] * 70)
        self.check_run([], [], "repeat 0", *["show"] * 58, "end")
        self.check_error(ScriptError, 3, "show", "show", "show", "end", *["show"] * 70)


if __name__ == "__main__":
    unittest.main()
