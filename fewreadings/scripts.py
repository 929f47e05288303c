"""Scripts: texts of rows that are executed on a balance."""

from fewreadings.balances import Balance
from fewreadings.errors import ExecutionFailed, ReadingError, ScriptError, TooLong
from fewreadings.notation import fraction_text, number_of, wrong_word

MOST_ROWS = 60
DEEPEST = 4
MOST_STEPS = 300
NUMBERS = {"add": 2, "lay": 3, "lift": 1, "move": 1, "show": 0, "mean": 0, "repeat": 1, "when": 1, "end": 0}
BLOCKS = ("repeat", "when")


def row_of(line):
    """Return a row as a tuple of its first word and its numbers, None if it is no row of a script."""
    words = line.split(" ")
    first = words[0]
    if first not in NUMBERS or wrong_word(words, NUMBERS[first]) is not None:
        return None
    numbers = [number_of(word) for word in words[1:]]
    if first == "repeat" and numbers[0] < 0:
        return None
    return (first, *numbers)


def depth_behind(depth, row):
    """Return how many blocks are open behind a row that stands in so many."""
    if row[0] in BLOCKS:
        return depth + 1
    if row[0] == "end":
        return depth - 1
    return depth


def rows_of(text):
    """Return the list of the rows of a script, or raise ScriptError."""
    if text == "":
        return []
    rows = []
    depth = 0
    for index, line in enumerate(text.split("\n")):
        row = row_of(line)
        if row is None or index == MOST_ROWS:
            raise ScriptError(index)
        depth = depth_behind(depth, row)
        if not 0 <= depth <= DEEPEST:
            raise ScriptError(index)
        rows.append(row)
    if depth > 0:
        raise ScriptError(len(rows))
    return rows


def end_of(rows, opening):
    """Return the index of the end of the block that begins with the row of an index."""
    index = opening
    depth = 1
    while depth > 0:
        index += 1
        depth = depth_behind(depth, rows[index])
    return index


class Run:
    """The rows of a script on their way, the balance that they work on, and what they write."""

    def __init__(self, weighting, rows):
        self.balance = Balance(weighting)
        self.output = []
        self._rows = rows
        self._many_steps = 0

    def _take_step(self):
        """Count a step, or raise TooLong ahead of one too many."""
        if self._many_steps == MOST_STEPS:
            raise TooLong(f"more than {MOST_STEPS} steps")
        self._many_steps += 1

    def _execute_operation(self, index):
        """Execute the row of an index on the balance."""
        try:
            self.balance.apply_all([self._rows[index]])
        except ReadingError:
            raise ExecutionFailed(index) from None

    def _execute_block(self, index, end):
        """Execute the rows from the row of an index, which begins a block, to its end."""
        word, number = self._rows[index]
        if word == "repeat":
            for _ in range(number):
                self._take_step()
                self.execute(index + 1, end)
        elif number in dict(self.balance.weighting_now.masses):
            self.execute(index + 1, end)

    def _execute_row(self, index):
        """Execute the row of an index, with its block if it begins one, and return the index of the next row."""
        self._take_step()
        word = self._rows[index][0]
        if word in BLOCKS:
            end = end_of(self._rows, index)
            self._execute_block(index, end)
            return end + 1
        if word == "show":
            self.output.append(fraction_text(self.balance.whole_now))
        elif word == "mean":
            self.output.append(fraction_text(self.balance.mean_now))
        else:
            self._execute_operation(index)
        return index + 1

    def execute(self, start, stop):
        """Execute the rows from one index on, up to the one ahead of another index."""
        index = start
        while index < stop:
            index = self._execute_row(index)


def run_script(weighting, text):
    """Return the balance behind a script and the list of all lines that it writes."""
    rows = rows_of(text)
    run = Run(weighting, rows)
    run.execute(0, len(rows))
    return run.balance, run.output
