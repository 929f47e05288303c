"""What the tests compare the program with: the document's words over Python's own fractions.

Only the examples are made by a random source, always by the same seed.
"""

import itertools
import random
from fractions import Fraction

FAR = 40


def told(number):
    """Return a number as the program tells it."""
    return (Fraction(number).numerator, Fraction(number).denominator)


def untold(fraction):
    return Fraction(fraction[0], fraction[1])


def sum_of_power(masses, stretches, power):
    result = sum((mass * Fraction(place) ** power for place, mass in masses), Fraction(0))
    for low, high, height in stretches:
        result += height * (Fraction(high) ** (power + 1) - Fraction(low) ** (power + 1)) / (power + 1)
    return result


def sum_of_polynomial(masses, stretches, coefficients):
    return sum((Fraction(coefficient) * sum_of_power(masses, stretches, power)
                for power, coefficient in enumerate(coefficients)), Fraction(0))


def rule_of_power(places, weights, power):
    return sum((untold(weight) * untold(place) ** power for place, weight in zip(places, weights)), Fraction(0))


def served_by(masses, stretches, places, weights):
    """Return the degree that is served, None if all powers up to a far one are."""
    for power in range(FAR):
        if rule_of_power(places, weights, power) != sum_of_power(masses, stretches, power):
            return power - 1
    return None


def solved(rows):
    """Return the solution of linear equations, each the coefficients and the right side."""
    rows = [list(row) for row in rows]
    size = len(rows)
    for column in range(size):
        pivot = next(at for at in range(column, size) if rows[at][column] != 0)
        rows[column], rows[pivot] = rows[pivot], rows[column]
        rows[column] = [number / rows[column][column] for number in rows[column]]
        for at in range(size):
            if at != column:
                much = rows[at][column]
                rows[at] = [number - much * other for number, other in zip(rows[at], rows[column])]
    return [row[size] for row in rows]


def best_weights(masses, stretches, places):
    rows = [[untold(place) ** power for place in places] + [sum_of_power(masses, stretches, power)]
            for power in range(len(places))]
    return tuple(told(weight) for weight in solved(rows))


def bar_of(masses, stretches, places):
    coefficients = [Fraction(1)]
    for place in places:
        longer = [Fraction(0)] * (len(coefficients) + 1)
        for power, coefficient in enumerate(coefficients):
            longer[power + 1] += coefficient
            longer[power] -= coefficient * untold(place)
        coefficients = longer
    for _ in range(FAR):
        if sum_of_polynomial(masses, stretches, coefficients) != 0:
            return tuple(told(coefficient) for coefficient in coefficients)
        coefficients = [Fraction(0)] + coefficients
    return None


def some_weighting(source):
    """Return masses and stretches, not both none."""
    while True:
        spots = sorted(source.sample(range(-20, 21), source.randint(0, 6)))
        masses = tuple((spot, source.randint(1, 20)) for spot in spots)
        ends = sorted(source.choices(range(-20, 21), k=2 * source.randint(0, 4)))
        stretches = tuple((ends[at], ends[at + 1], source.randint(1, 20))
                          for at in range(0, len(ends), 2) if ends[at] < ends[at + 1])
        if masses or stretches:
            return masses, stretches


def some_terms(source, number):
    """Return a number as a fraction, perhaps not in lowest terms or with a bottom below 0."""
    factor = source.choice((1, 1, 2, -1, -3, 10))
    return (number.numerator * factor, number.denominator * factor)


def some_places(source, masses):
    """Return 1 to 6 places, some of them where masses lie."""
    spots = {Fraction(source.randint(-40, 40), source.randint(1, 4)) for _ in range(source.randint(1, 6))}
    for place, _ in masses:
        if source.randint(0, 1) == 1:
            spots.add(Fraction(place))
    spots = sorted(source.sample(sorted(spots), min(6, len(spots))))
    return tuple(some_terms(source, spot) for spot in spots)


def some_weights(source, count):
    return tuple(some_terms(source, Fraction(source.randint(-9, 9), source.randint(1, 6))) for _ in range(count))


def some_polynomial(source):
    return tuple(source.randint(-9, 9) for _ in range(source.randint(0, 13)))


def source_of(seed):
    return random.Random(seed)


def multiplied(one, other):
    """Return the product of two polynomials of numbers."""
    if not one or not other:
        return []
    result = [Fraction(0)] * (len(one) + len(other) - 1)
    for low, left in enumerate(one):
        for high, right in enumerate(other):
            result[low + high] += left * right
    return result


def shortened(polynomial):
    result = list(polynomial)
    while result and result[-1] == 0:
        result.pop()
    return result


def worth(polynomial, spot):
    return sum((coefficient * Fraction(spot) ** power for power, coefficient in enumerate(polynomial)), Fraction(0))


def product_of_roots(spots):
    result = [Fraction(1)]
    for spot in spots:
        result = multiplied(result, [-Fraction(spot), Fraction(1)])
    return result


def only_solution(rows):
    """Return the solution of as many linear equations as unknowns, None if there is not just one."""
    try:
        return solved(rows)
    except StopIteration:
        return None


def grown_polynomial(masses, stretches, spots, count):
    """Return the polynomial of so many places beside spots, by its equations, None if there is not just one."""
    sums = [sum_of_polynomial(masses, stretches, multiplied([0] * power + [1], product_of_roots(spots)))
            for power in range(2 * count)]
    found = only_solution([sums[row:row + count] + [-sums[row + count]] for row in range(count)])
    return None if found is None else tuple(told(number) for number in found) + ((1, 1),)


def rest_of(one, other):
    """Return the rest of the division of two polynomials of numbers."""
    rest = shortened(one)
    while len(rest) >= len(other):
        factor = rest[-1] / other[-1]
        ahead = len(rest) - len(other)
        rest = shortened([number - factor * other[at - ahead] if at >= ahead else number
                          for at, number in enumerate(rest)][:-1])
    return rest


def signs_changed(chain, spot):
    signs = [worth(polynomial, spot) > 0 for polynomial in chain if worth(polynomial, spot) != 0]
    return sum(one != other for one, other in zip(signs, signs[1:]))


def roots_in(polynomial, low, high):
    """Return how many roots of a polynomial of single roots lie above low, not above high, by its division chain."""
    chain = [shortened(polynomial)]
    chain.append(shortened([power * number for power, number in enumerate(chain[0])][1:]))
    while chain[-1]:
        chain.append([-number for number in rest_of(chain[-2], chain[-1])])
    chain.pop()
    if low >= high or len(chain) < 2:
        return 0
    return signs_changed(chain, low) - signs_changed(chain, high)


def determinant(rows):
    """Return the determinant of rows of numbers, by all orders of the columns."""
    total = Fraction(0)
    for order in itertools.permutations(range(len(rows))):
        part = Fraction(1)
        for row, column in enumerate(order):
            part *= rows[row][column]
        turned = sum(order[one] > order[other] for other in range(len(order)) for one in range(other))
        total += -part if turned % 2 else part
    return total


def through(spots, worths):
    """Return the shortest polynomial that has worths at spots, by its equations."""
    rows = [[spot ** power for power in range(len(spots))] + [one] for spot, one in zip(spots, worths)]
    return shortened(solved(rows))


def some_readings(source, count):
    return tuple(some_terms(source, Fraction(source.randint(-12, 12), source.randint(1, 5))) for _ in range(count))


def some_strong_weighting(source, count):
    """Return masses and stretches for which there is the polynomial of a count."""
    while True:
        masses, stretches = some_weighting(source)
        if stretches or len(masses) >= count:
            return masses, stretches
