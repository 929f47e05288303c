"""What the tests compare the program with: the document's words over Python's own fractions.

Only the examples are made by a random source, always by the same seed.
"""

import random
from fractions import Fraction

FAR = 40


def told(number):
    """Return a number as the program tells it."""
    return (Fraction(number).numerator, Fraction(number).denominator)


def untold(fraction):
    return Fraction(fraction[0], fraction[1])


def sum_of_power(masses, stretches, power):
    result = sum((mass * Fraction(place) ** power for place, mass in masses), Fraction(0))
    for low, high, height in stretches:
        result += height * (Fraction(high) ** (power + 1) - Fraction(low) ** (power + 1)) / (power + 1)
    return result


def sum_of_polynomial(masses, stretches, coefficients):
    return sum((Fraction(coefficient) * sum_of_power(masses, stretches, power)
                for power, coefficient in enumerate(coefficients)), Fraction(0))


def rule_of_power(places, weights, power):
    return sum((untold(weight) * untold(place) ** power for place, weight in zip(places, weights)), Fraction(0))


def served_by(masses, stretches, places, weights):
    """Return the degree that is served, None if all powers up to a far one are."""
    for power in range(FAR):
        if rule_of_power(places, weights, power) != sum_of_power(masses, stretches, power):
            return power - 1
    return None


def solved(rows):
    """Return the solution of linear equations, each the coefficients and the right side."""
    rows = [list(row) for row in rows]
    size = len(rows)
    for column in range(size):
        pivot = next(at for at in range(column, size) if rows[at][column] != 0)
        rows[column], rows[pivot] = rows[pivot], rows[column]
        rows[column] = [number / rows[column][column] for number in rows[column]]
        for at in range(size):
            if at != column:
                much = rows[at][column]
                rows[at] = [number - much * other for number, other in zip(rows[at], rows[column])]
    return [row[size] for row in rows]


def best_weights(masses, stretches, places):
    rows = [[untold(place) ** power for place in places] + [sum_of_power(masses, stretches, power)]
            for power in range(len(places))]
    return tuple(told(weight) for weight in solved(rows))


def bar_of(masses, stretches, places):
    coefficients = [Fraction(1)]
    for place in places:
        longer = [Fraction(0)] * (len(coefficients) + 1)
        for power, coefficient in enumerate(coefficients):
            longer[power + 1] += coefficient
            longer[power] -= coefficient * untold(place)
        coefficients = longer
    for _ in range(FAR):
        if sum_of_polynomial(masses, stretches, coefficients) != 0:
            return tuple(told(coefficient) for coefficient in coefficients)
        coefficients = [Fraction(0)] + coefficients
    return None


def some_weighting(source):
    """Return masses and stretches, not both none."""
    while True:
        spots = sorted(source.sample(range(-20, 21), source.randint(0, 6)))
        masses = tuple((spot, source.randint(1, 20)) for spot in spots)
        ends = sorted(source.choices(range(-20, 21), k=2 * source.randint(0, 4)))
        stretches = tuple((ends[at], ends[at + 1], source.randint(1, 20))
                          for at in range(0, len(ends), 2) if ends[at] < ends[at + 1])
        if masses or stretches:
            return masses, stretches


def some_terms(source, number):
    """Return a number as a fraction, perhaps not in lowest terms or with a bottom below 0."""
    factor = source.choice((1, 1, 2, -1, -3, 10))
    return (number.numerator * factor, number.denominator * factor)


def some_places(source, masses):
    """Return 1 to 6 places, some of them where masses lie."""
    spots = {Fraction(source.randint(-40, 40), source.randint(1, 4)) for _ in range(source.randint(1, 6))}
    for place, _ in masses:
        if source.randint(0, 1) == 1:
            spots.add(Fraction(place))
    spots = sorted(source.sample(sorted(spots), min(6, len(spots))))
    return tuple(some_terms(source, spot) for spot in spots)


def some_weights(source, count):
    return tuple(some_terms(source, Fraction(source.randint(-9, 9), source.randint(1, 6))) for _ in range(count))


def some_polynomial(source):
    return tuple(source.randint(-9, 9) for _ in range(source.randint(0, 13)))


def source_of(seed):
    return random.Random(seed)
