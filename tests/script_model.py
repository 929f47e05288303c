"""Scripts by the document's words: a row is what a pattern takes, and a run is a tree that is walked, step by step."""

import re
from fractions import Fraction

from fewreadings.errors import ReadingError
from tests import oracle
from tests.model import Model

NUMBER = "(0|-?[1-9][0-9]?)"
ROW = re.compile(f"add {NUMBER} {NUMBER}|lay {NUMBER} {NUMBER} {NUMBER}|(lift|move|when) {NUMBER}"
                 "|repeat (0|[1-9][0-9]?)|show|mean|end")


class Failed(Exception):
    """A run that ends ahead of its end, with what the program must raise."""


def depth_of(lines):
    starts = [line for line in lines if line.startswith(("repeat", "when"))]
    return len(starts) - lines.count("end")


def wrong_row(lines):
    """Return the row of which a script must complain, None if there is none."""
    for index, line in enumerate(lines):
        if index == 60 or not ROW.fullmatch(line) or not 0 <= depth_of(lines[:index + 1]) <= 4:
            return index
    return len(lines) if depth_of(lines) else None


def tree_of(lines):
    """Return the rows as a list of (index, words, rows within)."""
    stack = [[]]
    for index, line in enumerate(lines):
        if line == "end":
            stack.pop()
        else:
            node = (index, line.split(" "), [])
            stack[-1].append(node)
            if node[1][0] in ("repeat", "when"):
                stack.append(node[2])
    return stack[0]


class ScriptModel:
    def __init__(self, masses, stretches):
        self.balance = Model(masses, stretches)
        self.output = []
        self.count = 0

    def step(self):
        self.count += 1
        if self.count > 300:
            raise Failed("TooLong", None)

    def walk(self, nodes):
        for index, (word, *numbers), inner in nodes:
            self.step()
            numbers = [int(number) for number in numbers]
            masses, stretches, _ = self.balance.now()
            sums = [oracle.sum_of_power(masses.items(), stretches, power) for power in (0, 1)]
            if word == "repeat":
                for _ in range(numbers[0]):
                    self.step()
                    self.walk(inner)
            elif word == "when":
                if numbers[0] in masses:
                    self.walk(inner)
            elif word in ("show", "mean"):
                self.output.append(str(sums[0] if word == "show" else Fraction(sums[1] / sums[0])))
            else:
                try:
                    self.balance.execute((word, *numbers))
                except ReadingError:
                    raise Failed("ExecutionFailed", index) from None


def run(masses, stretches, text):
    """Return the model of a script behind its end, or raise Failed."""
    lines = text.split("\n") if text else []
    wrong = wrong_row(lines)
    if wrong is not None:
        raise Failed("ScriptError", wrong)
    model = ScriptModel(masses, stretches)
    model.walk(tree_of(lines))
    return model


def some_row(source):
    word = source.choice(("add", "add", "add", "lay", "lift", "move", "show", "mean"))
    numbers = {"add": lambda: (source.randint(-5, 5), source.randint(1, 3)), "lift": lambda: (source.randint(-5, 5),),
               "move": lambda: (source.randint(-1, 1),)}
    if word == "lay":
        low = source.randint(-15, 14)
        numbers["lay"] = lambda: (low, low + source.randint(1, 2), source.randint(1, 20))
    return " ".join(map(str, (word, *numbers.get(word, tuple)())))


def some_rows(source, count, depth=0):
    """Return rows with blocks, mostly such as can be executed."""
    rows = []
    for _ in range(count):
        if depth < 4 and source.randint(0, 4) == 0:
            opening = source.choice((f"repeat {source.choice((0, 1, 2, 3, 3, 9))}", f"when {source.randint(-3, 3)}"))
            rows += [opening, *some_rows(source, source.randint(0, 4), depth + 1), "end"]
        else:
            rows.append(some_row(source))
    return rows


def written_out(nodes):
    """Return the rows of a tree with each repeat replaced by its rows, so many times."""
    rows = []
    for _, words, inner in nodes:
        if words[0] == "repeat":
            rows += written_out(inner) * int(words[1])
        elif words[0] == "when":
            rows += [" ".join(words), *written_out(inner), "end"]
        else:
            rows.append(" ".join(words))
    return rows
