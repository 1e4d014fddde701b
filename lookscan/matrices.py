"""Square matrices, as tuples of rows."""

from lookscan.arithmetic import dot, greatest_divisor, least_multiple
from lookscan.places import are_numbers


def identity(directions):
    """Return the matrix whose product with each place is the place itself."""
    rows = []
    for at in range(directions):
        rows.append((0,) * at + (1,) + (0,) * (directions - at - 1))
    return tuple(rows)


def times(matrix, place):
    """Return the product of a matrix and a place."""
    return tuple([dot(row, place) for row in matrix])


def column(matrix, at):
    """Return the numbers of a matrix at one direction."""
    return tuple([row[at] for row in matrix])


def row_times(row, matrix):
    """Return the row whose products with a place are those of the given row with the place's product."""
    return tuple([dot(row, column(matrix, at)) for at in range(len(matrix))])


def determinant(matrix):
    """Return the determinant, by the numbers of the first row."""
    if len(matrix) == 1:
        return matrix[0][0]
    total = 0
    sign = 1
    for at, number in enumerate(matrix[0]):
        minor = [row[:at] + row[at + 1:] for row in matrix[1:]]
        total += sign * number * determinant(minor)
        sign = -sign
    return total


def is_matrix(value, directions):
    """Tell whether a value is a matrix for so many directions that can be undone over the integers."""
    if not isinstance(value, tuple) or len(value) != directions:
        return False
    if not all([are_numbers(row, directions) for row in value]):
        return False
    return determinant(value) in (1, -1)


def rest_divisors(rows, divisors, directions):
    """Return the least divisors by which the rests of a place tell the rest of each row's sum of products.

    A row's rest is by the divisor at the same index. A step of a direction's new divisor must
    change each sum by a multiple of its divisor; the directions are independent of one another.
    """
    found = []
    for at in range(directions):
        step = 1
        for divisor, number in zip(divisors, column(rows, at)):
            step = least_multiple(step, divisor // greatest_divisor(divisor, number))
        found.append(step)
    return tuple(found)
