"""Texts of fractions, of polynomials and of weightings."""

from fewreadings.errors import InvalidText
from fewreadings.exact import ONE, checked_fraction
from fewreadings.weightings import Weighting

MOST_DIGITS = 2
NUMBERS = {"mass": 2, "stretch": 3}


def fraction_text(fraction):
    """Return the text of a fraction in lowest terms, its bottom left out if it is 1."""
    top, bottom = checked_fraction(fraction)
    if bottom == 1:
        return str(top)
    return f"{top}/{bottom}"


def term_text(size, power):
    """Return the text of a coefficient above 0 and a power of x."""
    if power == 0:
        return fraction_text(size)
    raised = "x"
    if power > 1:
        raised = f"x^{power}"
    if size == ONE:
        return raised
    return f"{fraction_text(size)} {raised}"


def sign_text(top, is_first):
    """Return what stands ahead of a term whose coefficient has a top that is not 0."""
    if is_first:
        return "-" if top < 0 else ""
    return " - " if top < 0 else " + "


def polynomial_text(polynomial):
    """Return the text of a polynomial of fractions, the term of the greatest power first."""
    coefficients = [checked_fraction(coefficient) for coefficient in polynomial]
    text = ""
    for power in reversed(range(len(coefficients))):
        top, bottom = coefficients[power]
        if top != 0:
            text = text + sign_text(top, text == "") + term_text((abs(top), bottom), power)
    if text == "":
        return "0"
    return text


def number_of(word):
    """Return the number of one or two digits, perhaps less than 0, that a word is, None if it is none."""
    digits = word.removeprefix("-")
    # Python would also take digits of other scripts for a number.
    if not 1 <= len(digits) <= MOST_DIGITS or not all(["0" <= digit <= "9" for digit in digits]):
        return None
    number = int(word)
    # A zero ahead and a 0 with a sign are not the text of their number.
    if str(number) != word:
        return None
    return number


def wrong_word(words, count):
    """Return the index of the first word that is wrong, missing or too much behind the first one of a row.

    None if there are just so many numbers.
    """
    for index in range(1, count + 1):
        if index == len(words) or number_of(words[index]) is None:
            return index
    if len(words) > count + 1:
        return count + 1
    return None


def row_text(word, numbers):
    """Return a row of a word and numbers."""
    return " ".join([word, *[str(number) for number in numbers]])


def format_weighting(weighting):
    """Return the text of a weighting, a row for each mass, then a row for each stretch."""
    masses = [row_text("mass", mass) for mass in weighting.masses]
    stretches = [row_text("stretch", stretch) for stretch in weighting.stretches]
    return "\n".join(masses + stretches)


def parse_weighting(text):
    """Return the weighting of a text, or raise InvalidText or InvalidWeighting."""
    masses = []
    stretches = []
    for row, line in enumerate(text.split("\n")):
        words = line.split(" ")
        first = words[0]
        if first not in NUMBERS or (first == "mass" and len(stretches) > 0):
            raise InvalidText(row, 0)
        wrong = wrong_word(words, NUMBERS[first])
        if wrong is not None:
            raise InvalidText(row, wrong)
        numbers = tuple([number_of(word) for word in words[1:]])
        if first == "mass":
            masses.append(numbers)
        else:
            stretches.append(numbers)
    return Weighting(tuple(masses), tuple(stretches))
