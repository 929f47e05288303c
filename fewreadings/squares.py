"""Squares: lists of as many rows as each row has fractions."""

from fewreadings.exact import NOUGHT, ONE, minus, over, plus, times


def square_of_sums(sums, size):
    """Return the square of so many rows whose item in a row i and a column j is the sum of the index i + j."""
    return [sums[row:row + size] for row in range(size)]


def determinant(square):
    """Return the determinant of a square, 1 for no rows."""
    if len(square) == 0:
        return ONE
    result = NOUGHT
    for column, head in enumerate(square[0]):
        smaller = [row[:column] + row[column + 1:] for row in square[1:]]
        part = times(head, determinant(smaller))
        if column % 2 == 0:
            result = plus(result, part)
        else:
            result = minus(result, part)
    return result


def with_column(square, column, worths):
    """Return a square with other worths in a column."""
    return [row[:column] + [one] + row[column + 1:] for row, one in zip(square, worths)]


def solution(square, worths):
    """Return the only factors of the columns that make them add up to the worths, None if there are not just such."""
    bottom = determinant(square)
    if bottom == NOUGHT:
        return None
    return [over(determinant(with_column(square, column, worths)), bottom) for column in range(len(square))]
