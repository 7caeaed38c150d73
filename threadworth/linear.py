"""Matrices of numbers, and determinants of polynomials."""

from math import factorial, lcm

from threadworth.errors import BadNumber, NotMatrix, TooLarge
from threadworth.numbers import (
    ONE, ZERO, check_number, check_world, is_number, minus, number,
)
from threadworth.polys import MOST_PARTS, added, is_poly, multiplied_polys, value_at

MOST_ROWS = 60
MOST_POLY_ROWS = 30


def is_matrix(world, matrix):
    check_world(world)
    if len(matrix) > MOST_ROWS or _columns(matrix) > MOST_ROWS:
        return False
    if any([len(row) != _columns(matrix) for row in matrix]):
        return False
    return all([is_number(world, x) for row in matrix for x in row])


def _columns(matrix):
    return len(matrix[0]) if matrix else 0


def _check_matrix(world, matrix):
    if not is_matrix(world, matrix):
        raise NotMatrix("this list is no matrix")


def _scale(row):
    """Return the least integer that makes all numbers of a row integers."""
    found = 1
    for _, b in row:
        found = lcm(found, b)
    return found


def _whole(row):
    """Return the row of integers that is the row times its scale."""
    scale = _scale(row)
    return [a * (scale // b) for a, b in row]


def dot(world, row, other):
    """Return the sum of the products of the entries of two lists of numbers."""
    total = sum([x * y for x, y in zip(_whole(row), _whole(other))])
    return number(world, total, _scale(row) * _scale(other))


def _reduced(p, rows):
    """Return rows of integers with the sums of multiples of the given ones.

    Each has a first entry other than 0, in whose column all others have 0;
    the list of these columns is returned, too.
    """
    leading = []
    last = 1
    for column in range(_columns(rows)):
        done = len(leading)
        found = [k for k in range(done, len(rows)) if rows[k][column] != 0]
        if found:
            top = rows[found[0]]
            others = [row for k, row in enumerate(rows) if k != found[0]]
            cleared = [_cleared(p, row, top, column, last) for row in others]
            rows = cleared[:done] + [top] + cleared[done:]
            leading.append(column)
            last = top[column]
    return rows[:len(leading)], leading


def _cleared(p, row, top, column, last):
    """Return a row, changed by a multiple of another one to have 0 in a column.

    For fractions the entries of all rows are determinants of parts of the
    matrix, which the leading entry before this one divides; divided by it,
    they do not grow beyond that.
    """
    lead = top[column]
    factor = row[column]
    if p > 0:
        return [(lead * x - factor * y) % p for x, y in zip(row, top)]
    return [(lead * x - factor * y) // last for x, y in zip(row, top)]


def _echelon(world, matrix):
    """Return the echelon form and the list of its leading columns."""
    rows, leading = _reduced(world[0], [_whole(row) for row in matrix])
    found = [
        [number(world, x, row[column]) for x in row] for row, column in zip(rows, leading)
    ]
    return found, leading


def echelon(world, matrix):
    _check_matrix(world, matrix)
    found, _ = _echelon(world, matrix)
    return found


def leading_columns(world, matrix):
    """Return the list of the leading columns of the echelon form."""
    _check_matrix(world, matrix)
    _, leading = _echelon(world, matrix)
    return leading


def rank(world, matrix):
    return len(leading_columns(world, matrix))


def kernel(world, matrix):
    """Return the basis of the vectors that are taken to 0."""
    _check_matrix(world, matrix)
    rows, leading = _echelon(world, matrix)
    size = _columns(matrix)
    found = []
    for free in range(size):
        if free not in leading:
            vector = [ZERO] * size
            vector[free] = ONE
            for row, column in zip(rows, leading):
                vector[column] = minus(world, ZERO, row[free])
            found.append(vector)
    return found


def _check_right(world, matrix, right):
    _check_matrix(world, matrix)
    for x in right:
        check_number(world, x)
    if len(right) != len(matrix):
        raise BadNumber("the list has not one entry for each row")


def _beside(matrix, right):
    return [row + [x] for row, x in zip(matrix, right)]


def _solved(world, wide):
    """Return the solution for a matrix with the list to solve as its last column."""
    rows, leading = _echelon(world, wide)
    size = _columns(wide) - 1
    if size in leading:
        return None
    vector = [ZERO] * size
    for row, column in zip(rows, leading):
        vector[column] = row[size]
    return vector


def solution(world, matrix, right):
    """Return the vector that is taken to a list, or None if there is none."""
    _check_right(world, matrix, right)
    if not matrix:
        return []
    return _solved(world, _beside(matrix, right))


def clash(world, matrix, right):
    """Return numbers for the rows that show that there is no solution, or None."""
    _check_right(world, matrix, right)
    if not matrix:
        return None
    # The numbers are a solution themselves: of the matrix whose rows are the
    # columns and the list, for 0 in each column and 1 in the list.
    wide = _beside(matrix, right)
    turned = [list(column) for column in zip(*wide)]
    return _solved(world, _beside(turned, [ZERO] * _columns(matrix) + [ONE]))


def product(world, one, other):
    """Return the matrix of the sums of products of rows and columns."""
    _check_matrix(world, one)
    _check_matrix(world, other)
    if _columns(one) != len(other):
        raise BadNumber("there are not as many columns as rows")
    columns = [[row[k] for row in other] for k in range(_columns(other))]
    return [[dot(world, row, column) for column in columns] for row in one]


def determinant(world, matrix):
    _check_matrix(world, matrix)
    if len(matrix) != _columns(matrix):
        raise BadNumber("there are not as many rows as columns")
    scale = 1
    for row in matrix:
        scale = scale * _scale(row)
    return number(world, _whole_determinant([_whole(row) for row in matrix]), scale)


def _whole_determinant(rows):
    """Return the determinant of rows of integers."""
    sign = 1
    last = 1
    while rows:
        found = [k for k, row in enumerate(rows) if row[0] != 0]
        if not found:
            return 0
        at = found[0]
        top = rows[at]
        others = rows[:at] + rows[at + 1:]
        if at % 2 == 1:
            sign = -sign
        # All entries stay determinants of parts of the matrix, see _cleared.
        rows = [_cleared(0, row, top, 0, last)[1:] for row in others]
        last = top[0]
    return sign * last


def poly_determinant(matrix):
    """Return the determinant of a list of lists of polynomials."""
    if not _is_poly_matrix(matrix):
        raise NotMatrix("this list is no matrix of polynomials")
    degree = sum([max([len(poly) - 1 for poly in row] + [0]) for row in matrix])
    if degree >= MOST_PARTS:
        raise TooLarge("the determinant could have more than 200 parts")
    return _from_values([_determinant_at(matrix, x) for x in range(degree + 1)])


def _is_poly_matrix(matrix):
    if len(matrix) > MOST_POLY_ROWS or any([len(row) != len(matrix) for row in matrix]):
        return False
    return all([is_poly(poly) for row in matrix for poly in row])


def _determinant_at(matrix, x):
    return _whole_determinant([[value_at(poly, x) for poly in row] for row in matrix])


def _from_values(values):
    """Return the polynomial with some values at 0, 1, 2, .. and no more parts than values."""
    differences = []
    while values:
        differences.append(values[0])
        values = [high - low for low, high in zip(values, values[1:])]
    # The polynomial is the sum of falling products, times the differences
    # divided by factorials; the products have their factors in common.
    found = ()
    for k in reversed(range(len(differences))):
        part = differences[k] // factorial(k)
        found = added(multiplied_polys(found, (-k, 1)), (part,) if part != 0 else ())
    return found
