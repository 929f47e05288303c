"""Promises 3 and 4 of the third stage: texts of fractions, of polynomials and of weightings, and wrong texts."""

import re
import unittest
from fractions import Fraction

from fewreadings.errors import InvalidFraction, InvalidText, InvalidWeighting
from fewreadings.notation import format_weighting, fraction_text, parse_weighting, polynomial_text
from fewreadings.roots import root_polynomial
from fewreadings.rules import bar
from fewreadings.weightings import Weighting
from tests import oracle

FULL = Weighting(tuple((place, 20) for place in (-20, -7, 0, 3, 19, 20)),
                 ((-20, -10, 1), (-10, -9, 20), (0, 5, 3), (19, 20, 7)))
FULL_TEXT = ("mass -20 20\nmass -7 20\nmass 0 20\nmass 3 20\nmass 19 20\nmass 20 20\n"
             "stretch -20 -10 1\nstretch -10 -9 20\nstretch 0 5 3\nstretch 19 20 7")
WRONG_NUMBERS = ("", "-", "+1", "+0", "01", "00", "-0", "-00", "-01", "100", "-100", "0100", "1.0", "1/1", "1e1", "x",
                 "--1", "1-", "- 1", "1_0", "\u0661", "\u00b2", "\uff11", "1\u0661", "\t1", "1\t", "1\r", "\u00a01", "mass",
                 "None", "True", "0x1", "-+1", "\u22121")


def wrong_at(text):
    """Return the row and the word that are wrong in a text, None if there is none."""
    stretch_ahead = False
    for row, line in enumerate(text.split("\n")):
        words = line.split(" ")
        if words[0] not in ("mass", "stretch") or (words[0] == "mass" and stretch_ahead):
            return row, 0
        stretch_ahead = words[0] == "stretch"
        count = 4 if stretch_ahead else 3
        for at in range(1, max(count, len(words))):
            if at >= len(words) or at >= count or not re.fullmatch("0|-?[1-9][0-9]?", words[at]):
                return row, at
    return None


def spelled(polynomial):
    """Return the text of a polynomial, made of a list of signs and one of terms."""
    signs, terms = [], []
    for power, fraction in list(enumerate(polynomial))[::-1]:
        number = oracle.untold(fraction)
        if number == 0:
            continue
        signs.append("-" if number < 0 else "+")
        words = [str(abs(number)), ["", "x"][power] if power < 2 else "x^" + str(power)]
        if abs(number) == 1 and power > 0:
            words.pop(0)
        terms.append(" ".join(word for word in words if word))
    if not terms:
        return "0"
    return signs[0].replace("+", "") + terms[0] + "".join(f" {sign} {term}" for sign, term in zip(signs[1:], terms[1:]))


class FractionTextTest(unittest.TestCase):
    def test_lowest_terms(self):
        for fraction, text in (((0, 1), "0"), ((0, -7), "0"), ((1, 1), "1"), ((-1, 1), "-1"), ((6, -3), "-2"),
                               ((-6, -4), "3/2"), ((4, -6), "-2/3"), ((1, 2), "1/2"), ((-1, 2), "-1/2"),
                               ((10, 4), "5/2"), ((5, 5), "1"), ((10 ** 30, 3), "1" + "0" * 30 + "/3")):
            self.assertEqual(fraction_text(fraction), text)

    def test_against_fractions(self):
        source = oracle.source_of(71)
        for _ in range(300):
            number = Fraction(source.randint(-99, 99), source.randint(1, 40))
            self.assertEqual(fraction_text(oracle.some_terms(source, number)), str(number))

    def test_bottom_0(self):
        for fraction in ((1, 0), (0, 0), (-4, 0)):
            with self.assertRaises(InvalidFraction) as caught:
                fraction_text(fraction)
            self.assertIs(type(caught.exception), InvalidFraction)


class PolynomialTextTest(unittest.TestCase):
    def check_text(self, polynomial, text):
        with self.subTest(polynomial=polynomial):
            self.assertEqual(polynomial_text(polynomial), text)

    def test_no_term(self):
        for polynomial in ((), ((0, 1),), ((0, 1), (0, -3), (0, 1))):
            self.check_text(polynomial, "0")

    def test_one_term(self):
        for coefficient, texts in (((1, 1), ("1", "x", "x^2", "x^3")), ((-1, 1), ("-1", "-x", "-x^2", "-x^3")),
                                   ((2, 1), ("2", "2 x", "2 x^2", "2 x^3")),
                                   ((-2, 1), ("-2", "-2 x", "-2 x^2", "-2 x^3")),
                                   ((1, 3), ("1/3", "1/3 x", "1/3 x^2", "1/3 x^3")),
                                   ((-4, 3), ("-4/3", "-4/3 x", "-4/3 x^2", "-4/3 x^3"))):
            for power, text in enumerate(texts):
                polynomial = ((0, 1),) * power + (coefficient,)
                self.check_text(polynomial, text)
                self.check_text(polynomial + ((0, 1), (0, 1)), text)

    def test_several_terms(self):
        for polynomial, text in ((((1, 1), (1, 1), (1, 1)), "x^2 + x + 1"),
                                 (((-1, 1), (-1, 1), (-1, 1)), "-x^2 - x - 1"),
                                 (((1, 2), (0, 1), (-5, 1), (1, 1)), "x^3 - 5 x^2 + 1/2"),
                                 (((0, 1), (-1, 1), (0, 1), (0, 1), (-3, 2)), "-3/2 x^4 - x"),
                                 (((-7, 1), (2, 1)), "2 x - 7"),
                                 (((3, 1), (-1, 9), (0, 1)), "-1/9 x + 3")):
            self.check_text(polynomial, text)

    def test_other_terms(self):
        self.check_text(((2, -4), (3, 3), (-5, 5), (-6, -3), (0, -1)), "2 x^3 - x^2 + x - 1/2")

    def test_long_polynomials(self):
        self.check_text(((0, 1),) * 12 + ((-1, 1),), "-x^12")
        self.check_text(((0, 1),) * 100 + ((5, 1),), "5 x^100")

    def test_against_spelling(self):
        source = oracle.source_of(72)
        for _ in range(300):
            numbers = [Fraction(source.choice((0, 0, 1, -1, 1, -1, 2, -7, 12)), source.choice((1, 1, 1, 2, 9)))
                       for _ in range(source.randint(0, 14))]
            polynomial = tuple(oracle.some_terms(source, number) for number in numbers)
            self.check_text(polynomial, spelled(polynomial))

    def test_told_polynomials(self):
        weighting = Weighting(((0, 2),), ((-1, 1, 3),))
        self.check_text(root_polynomial(weighting, 2), "x^2 - 1/4")
        self.check_text(root_polynomial(weighting, 0), "1")
        self.check_text(bar(weighting, ((-1, 1), (1, 1))), "x^2 - 1")

    def test_bottom_0(self):
        for polynomial in (((1, 0),), ((0, 0),), ((1, 1), (0, 0)), ((0, 0), (1, 1)), ((1, 1), (1, 0), (2, 1)),
                           ((1, 1), (0, 1), (5, 0))):
            with self.assertRaises(InvalidFraction) as caught:
                polynomial_text(polynomial)
            self.assertIs(type(caught.exception), InvalidFraction)


class WeightingTextTest(unittest.TestCase):
    def test_texts(self):
        for masses, stretches, text in ((((0, 1),), (), "mass 0 1"), ((), ((-1, 1, 20),), "stretch -1 1 20"),
                                        (((-9, 9), (10, 10)), ((-20, 20, 3),),
                                         "mass -9 9\nmass 10 10\nstretch -20 20 3")):
            self.assertEqual(format_weighting(Weighting(masses, stretches)), text)
            self.assertEqual(parse_weighting(text), Weighting(masses, stretches))
        self.assertEqual(format_weighting(FULL), FULL_TEXT)
        self.assertEqual(parse_weighting(FULL_TEXT), FULL)

    def test_they_lead_back(self):
        source = oracle.source_of(73)
        for _ in range(200):
            masses, stretches = oracle.some_weighting(source)
            weighting = Weighting(masses, stretches)
            text = format_weighting(weighting)
            self.assertEqual(text, format_weighting(weighting))
            self.assertIsNone(wrong_at(text))
            found = parse_weighting(text)
            self.assertEqual((found.masses, found.stretches), (masses, stretches))
            self.assertEqual(format_weighting(found), text)


class WrongTextTest(unittest.TestCase):
    def check_text(self, text, row, word):
        with self.subTest(text=text):
            with self.assertRaises(InvalidText) as caught:
                parse_weighting(text)
            self.assertIs(type(caught.exception), InvalidText)
            self.assertEqual((caught.exception.row, caught.exception.word), (row, word))

    def check_weighting(self, text, part, index):
        with self.subTest(text=text):
            with self.assertRaises(InvalidWeighting) as caught:
                parse_weighting(text)
            self.assertEqual((caught.exception.part, caught.exception.index), (part, index))

    def test_empty_rows(self):
        for text, row in (("", 0), ("\n", 0), ("\nmass 0 1", 0), ("mass 0 1\n", 1), ("mass 0 1\n\nmass 1 1", 1),
                          ("mass 0 1\nstretch 0 1 1\n", 2), ("mass 0 1\n\n", 1)):
            self.check_text(text, row, 0)

    def test_blanks(self):
        for text, row, word in ((" ", 0, 0), (" mass 0 1", 0, 0), ("mass  0 1", 0, 1), ("mass 0  1", 0, 2),
                                ("mass 0 1 ", 0, 3), ("mass 0 ", 0, 2), ("mass ", 0, 1), ("stretch 0 1 1  ", 0, 4),
                                ("mass 0 1\nstretch 0 1  1", 1, 3), ("mass 0 1\n stretch 0 1 1", 1, 0),
                                ("mass\t0\t1", 0, 0), ("mass 0 1\r\nmass 1 1", 0, 2), ("mass 0 1\n ", 1, 0)):
            self.check_text(text, row, word)

    def test_first_words(self):
        for word in ("Mass", "MASS", "mas", "masses", "add", "Stretch", "stretches", "0", "mass:", "\u043cass"):
            self.check_text(f"{word} 0 1", 0, 0)
            self.check_text(f"mass 0 1\n{word} 0 1 1", 1, 0)

    def test_mass_behind_a_stretch(self):
        self.check_text("stretch 0 1 1\nmass 0 1", 1, 0)
        self.check_text("mass 0 1\nstretch 0 1 1\nstretch 1 2 1\nmass 1 1", 3, 0)
        self.check_text("stretch 0 1 1\nmass 0", 1, 0)
        # A wrong row ahead of it is told, and so is one word of a stretch that is no row.
        self.check_text("stretch 0 1\nmass 0 1", 0, 3)

    def test_numbers(self):
        for number in WRONG_NUMBERS:
            if "\n" not in number and " " not in number:
                for at in (1, 2):
                    words = ["mass", "0", "1"]
                    words[at] = number
                    self.check_text("mass -1 1\n" + " ".join(words), 1, at)
                for at in (1, 2, 3):
                    words = ["stretch", "0", "1", "1"]
                    words[at] = number
                    self.check_text(" ".join(words), 0, at)

    def test_missing_words(self):
        for text, row, word in (("mass", 0, 1), ("mass 0", 0, 2), ("stretch", 0, 1), ("stretch 0", 0, 2),
                                ("stretch 0 1", 0, 3), ("mass 0 1\nmass 1\nmass", 1, 2),
                                ("mass 0 1\nstretch 1 2", 1, 3), ("mass x", 0, 1)):
            self.check_text(text, row, word)

    def test_superfluous_words(self):
        for text, row, word in (("mass 0 1 1", 0, 3), ("mass 0 1 x y", 0, 3), ("stretch 0 1 1 1", 0, 4),
                                ("mass 0 1\nmass 1 1 mass 2 1", 1, 3), ("mass 0 x 1", 0, 2)):
            self.check_text(text, row, word)

    def test_first_of_several(self):
        self.check_text("mass 0 01\nmass +1 1", 0, 2)
        self.check_text("mass 01 01", 0, 1)
        self.check_text("mass 0 1\nmass -0\nmess", 1, 1)
        # A wrong word is told ahead of a wrong weighting, however far behind.
        self.check_text("mass 0 1\nmass 0 0\nstretch 3 2 1\nstretch 0 1 x", 3, 3)
        self.check_text("\n".join(["mass 0 1"] * 9 + ["mass"]), 9, 1)

    def test_weightings_behind(self):
        for text, part, index in (("mass 0 0", 0, 0), ("mass 21 1", 0, 0), ("mass -99 1", 0, 0), ("mass 0 99", 0, 0),
                                  ("mass 0 -1", 0, 0), ("mass 0 1\nmass 0 2", 0, 1), ("mass 1 1\nmass 0 1", 0, 1),
                                  ("stretch 1 1 1", 1, 0), ("stretch 0 1 0", 1, 0), ("stretch 0 1 21", 1, 0),
                                  ("stretch 0 2 1\nstretch 1 3 1", 1, 1), ("stretch 0 21 1", 1, 0),
                                  ("mass 0 0\nstretch 1 1 1", 0, 0), ("mass 0 1\nstretch 1 1 1", 1, 0)):
            self.check_weighting(text, part, index)
        self.check_weighting("\n".join(f"mass {place} 1" for place in range(7)), 0, 6)
        self.check_weighting("\n".join(f"stretch {low} {low + 1} 1" for low in range(5)), 1, 4)
        self.check_weighting(FULL_TEXT + "\nstretch 20 20 7", 1, 4)

    def test_one_word_of_a_text_changed(self):
        source = oracle.source_of(74)
        for _ in range(400):
            rows = [line.split(" ") for line in format_weighting(Weighting(*oracle.some_weighting(source))).split("\n")]
            for _ in range(source.randint(1, 2)):
                row = source.choice(rows)
                at = source.randrange(len(row) + 1)
                word = source.choice(WRONG_NUMBERS + ("mass", "stretch", "3", "-3"))
                row[at:at + source.randint(0, 1)] = [word] * source.randint(0, 1)
            text = "\n".join(" ".join(row) for row in rows)
            wrong = wrong_at(text)
            if wrong is not None:
                self.check_text(text, *wrong)
            else:
                try:
                    self.assertEqual(format_weighting(parse_weighting(text)), text)
                except InvalidWeighting:
                    pass


if __name__ == "__main__":
    unittest.main()
