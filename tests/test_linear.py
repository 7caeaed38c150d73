"""Points [100] to [106]: matrices and determinants."""

import itertools
import random
import unittest
from fractions import Fraction

from tests.helpers import (
    Unchanged, any_number, as_number, as_numbers, as_rest, as_value, as_values, reduced_rows,
)
from threadworth.errors import BadNumber, NotMatrix, NotNumber, NotWorld, TooLarge
from threadworth.linear import (
    clash, determinant, echelon, is_matrix, kernel, poly_determinant, product, rank, solution,
)
from threadworth.polys import is_poly, multiplied_polys, value_at

WORLDS = ((0, 2), (0, 0), (2, 1), (3, 0), (5, 4), (31, 7))
SIZES = (
    (0, 0), (1, 0), (3, 0), (1, 1), (1, 4), (4, 1), (2, 2), (3, 3), (3, 5), (5, 3), (6, 6), (9, 7),
)
NULL = (0, 1)
ONE = (1, 1)
NO_MATRICES = (
    [[ONE], []], [[], [ONE]], [[ONE, ONE], [ONE]], [[(2, 2)]], [[(1, 0)]], [[ONE, (1, -1)]],
    [[ONE]] * 61, [[]] * 61, [[ONE] * 61], [[NULL] * 3] * 61, [[ONE], [ONE, (2, 2)]],
)


def any_matrix(source, world, rows, columns, low=False):
    """A drawn matrix; a low one has rows that are sums of multiples of others."""
    made = [[any_number(source, world) for _ in range(columns)] for _ in range(rows)]
    if low and rows > 2:
        values = as_values(world, made)
        for k in range(1, rows, 2):
            factor = as_value(world, any_number(source, world))
            values[k] = [x + factor * y for x, y in zip(values[0], values[k - 1])]
        made = as_numbers(world, values)
    return made


def matrices(seed, sizes=SIZES):
    source = random.Random(seed)
    for world in WORLDS:
        for rows, columns in sizes:
            for low in (False, True):
                yield world, any_matrix(source, world, rows, columns, low)
            sparse = any_matrix(source, world, rows, columns)
            yield world, [[x if source.random() < 0.3 else NULL for x in row] for row in sparse]
            yield world, [[NULL] * columns for _ in range(rows)]


def width(matrix):
    return len(matrix[0]) if matrix else 0


def taken(world, matrix, vector):
    """The list to which a matrix takes a vector."""
    p = world[0]
    values = [as_value(world, x) for x in vector]
    return [
        as_number(world, as_rest(p, sum((x * y for x, y in zip(row, values)), 0)))
        for row in as_values(world, matrix)
    ]


def determinant_by_choice(rows, times, plus, one, nothing):
    """The determinant as the sum over all ways to choose entries."""
    total = nothing
    for columns in itertools.permutations(range(len(rows))):
        turned = sum(
            1 for i, j in itertools.combinations(range(len(rows)), 2) if columns[i] > columns[j]
        )
        part = one
        for row, column in zip(rows, columns):
            part = times(part, row[column])
        total = plus(total, part, -1 if turned % 2 else 1)
    return total


def number_determinant(world, matrix):
    return as_number(world, determinant_by_choice(
        as_values(world, matrix), lambda x, y: x * y, lambda x, y, sign: x + sign * y, 1, 0
    ))


def added_polys(one, other, sign):
    size = max(len(one), len(other))
    parts = [
        (one[k] if k < len(one) else 0) + sign * (other[k] if k < len(other) else 0)
        for k in range(size)
    ]
    while parts and parts[-1] == 0:
        parts.pop()
    return tuple(parts)


def any_poly(source, degree, most=9):
    parts = [source.randrange(-most, most + 1) for _ in range(degree)]
    return tuple(parts) + (source.choice([-3, -2, -1, 1, 2, 5]),)


class FormTest(unittest.TestCase):

    def test_matrices(self):
        for matrix in ([], [[]], [[], []], [[ONE]], [[ONE] * 60] * 60, [[]] * 60,
                       [[NULL] * 60], [[ONE]] * 60):
            self.assertIs(is_matrix((0, 2), matrix), True)
            self.assertIs(is_matrix((5, 2), matrix), True)

    def test_other_lists(self):
        for matrix in NO_MATRICES:
            self.assertIs(is_matrix((0, 2), matrix), False)
        for x in ((5, 1), (-1, 1), (1, 2), (0, 0)):
            self.assertIs(is_matrix((5, 2), [[ONE, x]]), False)
        self.assertIs(is_matrix((0, 2), [[(-1, 2)]]), True)

    def calls(self, world, matrix, right):
        return {
            "echelon": lambda: echelon(world, matrix), "rank": lambda: rank(world, matrix),
            "kernel": lambda: kernel(world, matrix),
            "determinant": lambda: determinant(world, matrix),
            "solution": lambda: solution(world, matrix, right),
            "clash": lambda: clash(world, matrix, right),
            "product one": lambda: product(world, matrix, [[ONE]]),
            "product other": lambda: product(world, [[ONE]], matrix),
        }

    def test_world_before_matrix_before_the_others(self):
        for world in ((0, 21), (4, 1), (5, 5)):
            for name, call in self.calls(world, NO_MATRICES[0], [(2, 2)]).items():
                self.assertRaises(NotWorld, call)
            self.assertRaises(NotWorld, is_matrix, world, [[(2, 2)]])
            self.assertRaises(NotWorld, is_matrix, world, [])
        for matrix in NO_MATRICES:
            for name, call in self.calls((0, 2), matrix, [(2, 2)]).items():
                with self.subTest(name=name, matrix=matrix[:2]):
                    self.assertRaises(NotMatrix, call)

    def test_right_sides(self):
        for function in (solution, clash):
            for right in ([(2, 2)], [ONE, (1, 0)], [ONE, ONE, (2, 2)]):
                self.assertRaises(NotNumber, function, (0, 2), [[ONE], [ONE]], right)
            for right in ([], [ONE], [ONE] * 3):
                self.assertRaises(BadNumber, function, (0, 2), [[ONE], [ONE]], right)
            self.assertRaises(NotNumber, function, (5, 2), [], [(5, 1)])
            self.assertRaises(BadNumber, function, (5, 2), [], [(4, 1)])

    def test_no_list_is_shared(self):
        matrix = [[ONE, NULL, ONE], [NULL, ONE, ONE]]
        for function in (echelon, kernel):
            first = function((0, 2), matrix)
            first[0][0] = "x"
            self.assertNotIn("x", function((0, 2), matrix)[0])
            self.assertEqual(matrix, [[ONE, NULL, ONE], [NULL, ONE, ONE]])
        made = product((0, 2), [[ONE], [ONE]], [[ONE]])
        made[0][0] = "x"
        self.assertEqual(made[1], [ONE])


class EchelonTest(unittest.TestCase):

    def test_the_form(self):
        for world, matrix in matrices(101):
            with Unchanged(self, matrix):
                found = echelon(world, matrix)
            due, leading = reduced_rows(world, as_values(world, matrix))
            self.assertEqual(found, as_numbers(world, due))
            self.assertEqual(rank(world, matrix), len(leading))
            firsts = [next(k for k, x in enumerate(row) if x != NULL) for row in found]
            self.assertEqual(firsts, leading)
            for row, first in zip(found, firsts):
                self.assertEqual(row[first], ONE)
                self.assertEqual([other[first] for other in found].count(NULL), len(found) - 1)

    def test_the_rows_have_the_same_sums(self):
        for world, matrix in matrices(102):
            found = echelon(world, matrix)
            self.assertEqual(echelon(world, found), found)
            self.assertEqual(echelon(world, matrix + found), found)
            self.assertEqual(echelon(world, matrix[::-1]), found)

    def test_without_rows_or_columns(self):
        for world in WORLDS:
            for matrix in ([], [[]], [[]] * 3, [[NULL]], [[NULL, NULL]] * 2):
                self.assertEqual(echelon(world, matrix), [])
                self.assertEqual(rank(world, matrix), 0)

    def test_60_rows(self):
        source = random.Random(103)
        for world in ((0, 2), (7, 2)):
            matrix = [
                [(source.randrange(-3 if world[0] == 0 else 0, 4), 1) for _ in range(60)]
                for _ in range(60)
            ]
            values = as_values(world, matrix)
            matrix[59] = as_numbers(world, [[x - y for x, y in zip(values[0], values[1])]])[0]
            due, leading = reduced_rows(world, as_values(world, matrix))
            self.assertEqual(echelon(world, matrix), as_numbers(world, due))
            self.assertEqual(rank(world, matrix), len(leading))
            self.assertLess(len(leading), 60)
            self.assertEqual(determinant(world, matrix), NULL)
            for vector in kernel(world, matrix):
                self.assertEqual(taken(world, matrix, vector), [NULL] * 60)

    def test_large_numbers(self):
        big = 10 ** 400 + 7
        matrix = [[(big, 3 if big % 3 else 7), ONE], [ONE, (1, big)]]
        due, _ = reduced_rows((0, 2), as_values((0, 2), matrix))
        self.assertEqual(echelon((0, 2), matrix), as_numbers((0, 2), due))


class KernelTest(unittest.TestCase):

    def test_the_basis(self):
        for world, matrix in matrices(104):
            with Unchanged(self, matrix):
                vectors = kernel(world, matrix)
            _, leading = reduced_rows(world, as_values(world, matrix))
            free = [k for k in range(width(matrix)) if k not in leading]
            self.assertEqual(len(vectors), len(free))
            for vector, column in zip(vectors, free):
                self.assertEqual(len(vector), width(matrix))
                self.assertEqual(taken(world, matrix, vector), [NULL] * len(matrix))
                self.assertEqual(
                    [vector[k] for k in free], [ONE if k == column else NULL for k in free]
                )

    def test_some_written_out(self):
        self.assertEqual(kernel((0, 2), []), [])
        self.assertEqual(kernel((0, 2), [[]]), [])
        self.assertEqual(kernel((0, 2), [[NULL, NULL]]), [[ONE, NULL], [NULL, ONE]])
        self.assertEqual(kernel((0, 2), [[(2, 1), (3, 1)]]), [[(-3, 2), ONE]])
        self.assertEqual(kernel((5, 2), [[(2, 1), (3, 1)]]), [[ONE, ONE]])
        self.assertEqual(kernel((0, 2), [[NULL, ONE]]), [[ONE, NULL]])


class SolutionTest(unittest.TestCase):

    def check_solution(self, world, matrix, right, vector):
        self.assertEqual(taken(world, matrix, vector), right)
        _, leading = reduced_rows(world, as_values(world, matrix))
        self.assertEqual(len(vector), width(matrix))
        for column, x in enumerate(vector):
            if column not in leading:
                self.assertEqual(x, NULL)

    def check_clash(self, world, matrix, right, numbers):
        self.assertEqual(len(numbers), len(matrix))
        columns = [list(column) for column in zip(*matrix)]
        self.assertEqual(taken(world, columns, numbers), [NULL] * width(matrix))
        self.assertEqual(taken(world, [right], numbers), [ONE])

    def test_a_solution_or_a_clash_and_never_both(self):
        source = random.Random(105)
        seen = {True: 0, False: 0}
        for world, matrix in matrices(106):
            vector = [any_number(source, world) for _ in range(width(matrix))]
            rights = [taken(world, matrix, vector), [NULL] * len(matrix)]
            rights += [[any_number(source, world) for _ in matrix] for _ in range(2)]
            for k, right in enumerate(rights):
                with Unchanged(self, matrix, right):
                    found = solution(world, matrix, right)
                    numbers = clash(world, matrix, right)
                self.assertIs(found is None, numbers is not None)
                seen[found is None] += 1
                if found is None:
                    self.assertGreater(k, 1)
                    self.check_clash(world, matrix, right, numbers)
                else:
                    self.check_solution(world, matrix, right, found)
        self.assertGreater(min(seen.values()), 40)

    def test_without_rows_or_columns(self):
        for world in WORLDS:
            self.assertEqual(solution(world, [], []), [])
            self.assertIsNone(clash(world, [], []))
            self.assertEqual(solution(world, [[], []], [NULL, NULL]), [])
            self.assertIsNone(clash(world, [[], []], [NULL, NULL]))
            self.assertIsNone(solution(world, [[], []], [NULL, ONE]))
            self.assertEqual(clash(world, [[], []], [NULL, ONE])[1], ONE)

    def test_60_rows_and_columns(self):
        matrix = [[ONE if i <= j else NULL for j in range(60)] for i in range(60)]
        self.assertEqual(solution((0, 2), matrix, [ONE] * 60), [NULL] * 59 + [ONE])
        self.assertIsNone(clash((0, 2), matrix, [ONE] * 60))
        matrix[59] = [NULL] * 60
        self.assertIsNone(solution((0, 2), matrix, [ONE] * 60))
        self.check_clash((0, 2), matrix, [ONE] * 60, clash((0, 2), matrix, [ONE] * 60))

    def test_unknown_columns_are_0(self):
        self.assertEqual(solution((0, 2), [[(2, 1), ONE]], [ONE]), [(1, 2), NULL])
        self.assertEqual(solution((5, 2), [[NULL, (2, 1), ONE]], [ONE]), [NULL, (3, 1), NULL])


class ProductTest(unittest.TestCase):

    def test_products(self):
        source = random.Random(107)
        for world in WORLDS:
            for n, m, q in ((1, 1, 1), (2, 3, 4), (4, 3, 1), (1, 5, 1), (3, 3, 3)):
                one = any_matrix(source, world, n, m)
                other = any_matrix(source, world, m, q)
                with Unchanged(self, one, other):
                    made = product(world, one, other)
                columns = [list(column) for column in zip(*other)]
                self.assertEqual(made, [taken(world, columns, row) for row in one])

    def test_without_rows_or_columns(self):
        self.assertEqual(product((0, 2), [], []), [])
        self.assertEqual(product((0, 2), [[], []], []), [[], []])
        self.assertEqual(product((0, 2), [[ONE], [ONE]], [[]]), [[], []])

    def test_other_sizes(self):
        for one, other in (
            ([[ONE]], [[ONE], [ONE]]), ([[ONE, ONE]], [[ONE, ONE]]), ([], [[ONE]]),
            ([[ONE]], []), ([[]], [[ONE]]), ([], [[]]),
        ):
            self.assertRaises(BadNumber, product, (0, 2), one, other)
        self.assertRaises(NotMatrix, product, (0, 2), [[ONE], []], [[(2, 2)]])


class DeterminantTest(unittest.TestCase):

    def test_expanded(self):
        for world, matrix in matrices(108, [(k, k) for k in range(1, 6)] + [(0, 0)]):
            with Unchanged(self, matrix):
                found = determinant(world, matrix)
            self.assertEqual(found, number_determinant(world, matrix))
            self.assertIs(found == NULL, rank(world, matrix) < len(matrix))

    def test_0_exactly_if_the_rank_is_less(self):
        for world, matrix in matrices(109, [(k, k) for k in (6, 7, 9)]):
            self.assertIs(
                determinant(world, matrix) == NULL, rank(world, matrix) < len(matrix)
            )

    def test_products(self):
        source = random.Random(110)
        for world in WORLDS:
            one = any_matrix(source, world, 6, 6)
            other = any_matrix(source, world, 6, 6)
            both = as_value(world, determinant(world, one))
            both = both * as_value(world, determinant(world, other))
            self.assertEqual(determinant(world, product(world, one, other)),
                             as_number(world, both))

    def test_exchanged_rows(self):
        for order in itertools.permutations(range(4)):
            matrix = [[ONE if k == place else NULL for k in range(4)] for place in order]
            self.assertEqual(determinant((0, 2), matrix), number_determinant((0, 2), matrix))

    def test_60_rows(self):
        matrix = [[(2, 1) if i == j else ONE for j in range(60)] for i in range(60)]
        self.assertEqual(determinant((0, 2), matrix), (61, 1))
        self.assertEqual(determinant((7, 2), matrix), (61 % 7, 1))
        self.assertEqual(determinant((31, 2), matrix), (61 % 31, 1))
        halves = [[(1, 2) if i == j else NULL for j in range(60)] for i in range(60)]
        self.assertEqual(determinant((0, 2), halves), (1, 2 ** 60))

    def test_without_rows_and_other_sizes(self):
        for world in WORLDS:
            self.assertEqual(determinant(world, []), ONE)
            for matrix in ([[]], [[ONE, ONE]], [[ONE], [ONE]], [[], []]):
                self.assertRaises(BadNumber, determinant, world, matrix)

    def test_example(self):
        matrix = [[(3, 1), (1, 1)], [(1, 1), (3, 1)]]
        self.assertEqual(determinant((0, 3), matrix), (8, 1))


class PolyDeterminantTest(unittest.TestCase):

    def test_expanded(self):
        source = random.Random(111)
        for size in range(5):
            for most in (1, 3, 6):
                matrix = [
                    [any_poly(source, source.randrange(most)) if source.random() < 0.8 else ()
                     for _ in range(size)] for _ in range(size)
                ]
                due = determinant_by_choice(matrix, multiplied_polys, added_polys, (1,), ())
                with Unchanged(self, matrix):
                    self.assertEqual(poly_determinant(matrix), due)

    def test_values(self):
        source = random.Random(112)
        for size in (1, 2, 5, 8, 12):
            matrix = [
                [any_poly(source, source.randrange(5)) for _ in range(size)] for _ in range(size)
            ]
            found = poly_determinant(matrix)
            self.assertIs(is_poly(found), True)
            for x in (-200, -3, -1, 0, 1, 2, 7, 100):
                values = [[(value_at(poly, x), 1) for poly in row] for row in matrix]
                self.assertEqual((value_at(found, x), 1), determinant((0, 1), values))

    def test_large_parts(self):
        big = 10 ** 500
        self.assertEqual(poly_determinant([[(big, 1)]]), (big, 1))
        self.assertEqual(
            poly_determinant([[(big, 1), (1,)], [(-1,), (0, big)]]), (1, big * big, big)
        )

    def test_determinants_that_are_0(self):
        self.assertEqual(poly_determinant([[()]]), ())
        self.assertEqual(poly_determinant([[(0, 1), (0, 1)], [(0, 1), (0, 1)]]), ())
        self.assertEqual(poly_determinant([[(), (1,)], [(), (0, 1)]]), ())

    def test_30_lists_and_31(self):
        row = [[(0, 1) if i == j else (1,) for j in range(30)] for i in range(30)]
        due = (1,)
        for _ in range(29):
            due = multiplied_polys(due, (-1, 1))
        self.assertEqual(poly_determinant(row), multiplied_polys(due, (29, 1)))
        self.assertRaises(NotMatrix, poly_determinant, [[(1,)] * 31] * 31)
        self.assertRaises(NotMatrix, poly_determinant, [[()] * 31] * 31)

    def test_degrees_whose_sum_is_199_and_200(self):
        x99, x100, x101 = (0,) * 99 + (1,), (0,) * 100 + (2,), (0,) * 101 + (1,)
        found = poly_determinant([[x99, (1,)], [(1, 1), x100]])
        self.assertEqual(found, (-1, -1) + (0,) * 197 + (2,))
        self.assertEqual(len(found), 200)
        self.assertRaises(TooLarge, poly_determinant, [[x99, ()], [(), x101]])
        self.assertRaises(TooLarge, poly_determinant, [[(), x99], [(), x101]])
        self.assertRaises(TooLarge, poly_determinant, [[x100, ()], [x100, ()]])
        self.assertEqual(poly_determinant([[(0,) * 199 + (3,)]]), (0,) * 199 + (3,))
        tall = [[(0,) * 50 + (1,) if i == j else () for j in range(4)] for i in range(4)]
        self.assertRaises(TooLarge, poly_determinant, tall)
        tall[0][0] = (0,) * 49 + (1,)
        self.assertEqual(poly_determinant(tall), (0,) * 199 + (1,))

    def test_other_lists(self):
        for matrix in (
            [[]], [[(1,)], [(1,)]], [[(1,), (1,)]], [[(1,), (1,)], [(1,)]], [[(0,)]],
            [[(1, 0)]], [[(1,) * 201]], [[(1,), (1,)], [(1,), (1, 0)]],
        ):
            self.assertRaises(NotMatrix, poly_determinant, matrix)
        # No matrix, and too large besides: the first is told.
        wide = (0,) * 150 + (1,)
        self.assertRaises(NotMatrix, poly_determinant, [[wide, (1, 0)], [(1,), wide]])
        self.assertRaises(NotMatrix, poly_determinant, [[wide, wide], [wide]])

    def test_without_lists_and_the_example(self):
        self.assertEqual(poly_determinant([]), (1,))
        self.assertEqual(poly_determinant([[(0, 1), (1,)], [(1,), (0, 1)]]), (-1, 0, 1))
