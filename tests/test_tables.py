"""Points [120] to [127]: tables of closings."""

import functools
import itertools
import random
import unittest
from collections import Counter
from math import factorial

from tests.helpers import (
    any_diagram, as_number, family_diagrams, joined_up, raised_d, sizes_up_to,
)
from threadworth import linear
from threadworth.diagrams import FAMILIES, counted, listed
from threadworth.errors import BadNumber, NotDiagram, NotFamily, NotWorld, TooLarge
from threadworth.polys import falling, multiplied_polys, rising, value, value_at
from threadworth.putting import closing, lowered, over, put
from threadworth.tables import (
    closings, determinant, is_spoilt, joined, spoilt, spoilt_rests, worths,
)

PRIMES = (2, 3, 5, 7, 11, 13, 17, 19, 23, 29, 31)
WRONG = (1, 1, ((1,), (0,)))
BAD_SIZES = ((-1, 1), (1, -1), (9, 0), (0, 9), (7, 6), (8, 5), (10 ** 40, 0))
SIZES = [(n, m) for n, m in sizes_up_to(12)]


def within(most, points=12):
    """The families and sizes with at most so many diagrams."""
    return [
        (family, n, m) for family in FAMILIES for n, m in SIZES
        if n + m <= points and counted(family, n, m) <= most
    ]


# Determinants take some time, so that tests share those that they only compare with.
known_determinant = functools.lru_cache(None)(determinant)
SOME = within(26, 4) + [("loose", 3, 2), ("lonepairs", 3, 2), ("pairs", 3, 3), ("loose", 0, 8)]


def beyond(most):
    return [
        (family, n, m) for family in FAMILIES for n, m in SIZES if counted(family, n, m) > most
    ]


def joined_by_hand(one, other):
    """The pieces when each point of one is joined to the same point of the other."""
    n, m, _ = one
    joints = [(("one", "above", k), ("other", "above", k)) for k in range(n)]
    joints += [(("one", "below", k), ("other", "below", k)) for k in range(m)]
    return len(joined_up({"one": one, "other": other}, joints))


def to_power(poly, count):
    found = (1,)
    for _ in range(count):
        found = multiplied_polys(found, poly)
    return found


def shapes(size, most=None):
    """All rows of positive integers that do not ascend, with a sum."""
    if size == 0:
        return [()]
    most = size if most is None else most
    return [
        (first,) + rest for first in range(min(size, most), 0, -1)
        for rest in shapes(size - first, first)
    ]


def fillings(shape):
    """The number of fillings: the greatest integer stands at a corner."""
    if sum(shape) == 0:
        return 1
    found = 0
    for i, width in enumerate(shape):
        below = shape[i + 1] if i + 1 < len(shape) else 0
        if width > below:
            found += fillings(shape[:i] + (width - 1,) + shape[i + 1:])
    return found


def cells(shape):
    return [(i, j) for i, width in enumerate(shape) for j in range(width)]


class JoinedTest(unittest.TestCase):

    def test_pieces(self):
        source = random.Random(120)
        for n, m in SIZES:
            one, other = any_diagram(source, n, m), any_diagram(source, n, m)
            self.assertEqual(joined(one, other), joined_by_hand(one, other))

    def test_both_ways_and_above_one_another(self):
        source = random.Random(121)
        for n, m in SIZES:
            one, other = any_diagram(source, n, m), any_diagram(source, n, m)
            self.assertEqual(joined(one, other), joined(other, one))
            if n <= 6:
                loops, made = put(one, over(other))
                self.assertEqual(joined(one, other), loops + closing(made))

    def test_at_most_the_blocks_of_the_first_one(self):
        for n, m in ((2, 1), (2, 2), (0, 4)):
            for one, other in itertools.product(listed("parts", n, m), repeat=2):
                inside = all(
                    any(set(block) <= set(large) for large in one[2]) for block in other[2]
                )
                self.assertLessEqual(joined(one, other), len(one[2]))
                self.assertIs(joined(one, other) == len(one[2]), inside)

    def test_errors_in_order(self):
        good, other = (1, 1, ((0, 1),)), (2, 0, ((0, 1),))
        self.assertRaises(NotDiagram, joined, WRONG, other)
        self.assertRaises(NotDiagram, joined, good, WRONG)
        self.assertRaises(NotDiagram, joined, (2, 0, ()), good)
        for one in ((1, 0, ((0,),)), (0, 1, ((0,),)), (2, 1, ((0, 1, 2),)), (1, 2, ((0, 1, 2),)),
                    other):
            self.assertRaises(BadNumber, joined, one, good)
            self.assertRaises(BadNumber, joined, good, one)
        self.assertEqual(joined((0, 0, ()), (0, 0, ())), 0)


class ClosingsTest(unittest.TestCase):

    def test_a_row_and_a_column_for_each_diagram_in_order(self):
        for family, n, m in within(60, 6):
            diagrams = family_diagrams(family, n, m)
            due = [[joined_by_hand(one, other) for other in diagrams] for one in diagrams]
            if len(diagrams) > 20:
                due = due[:3]
            self.assertEqual(closings(family, n, m)[:len(due)], due)

    def test_symmetric(self):
        for family, n, m in within(250):
            table = closings(family, n, m)
            self.assertEqual(len(table), counted(family, n, m))
            self.assertEqual(table, [list(column) for column in zip(*table)])

    def test_the_same_table_for_as_many_points(self):
        for family in ("pairs", "lonepairs", "even", "parts"):
            for size in range(1, 7):
                for n in range(1, size + 1):
                    m = size - n
                    if counted(family, n, m) > 80:
                        continue
                    order = [
                        listed(family, n - 1, m + 1).index(lowered(diagram))
                        for diagram in listed(family, n, m)
                    ]
                    other = closings(family, n - 1, m + 1)
                    self.assertEqual(
                        closings(family, n, m), [[other[i][j] for j in order] for i in order]
                    )

    def test_no_rows(self):
        for family, n, m in (("threads", 2, 1), ("pairs", 2, 1), ("even", 0, 1), ("threads", 8, 0)):
            self.assertEqual(closings(family, n, m), [])
            self.assertEqual(worths((0, 2), family, n, m), [])

    def test_no_list_is_shared(self):
        table = closings("pairs", 2, 2)
        table[0][1] = "x"
        self.assertEqual(table[1][0], 1)
        self.assertEqual(closings("pairs", 2, 2), [[2, 1, 1], [1, 2, 1], [1, 1, 2]])
        table = worths((0, 2), "pairs", 2, 2)
        table[0][1] = "x"
        self.assertEqual(table[1][0], (2, 1))

    def test_worths(self):
        for world in ((0, 2), (0, 0), (0, -20), (2, 1), (5, 0), (31, 30)):
            for family, n, m in within(20, 6) + [("loose", 4, 4), ("threads", 5, 5)]:
                due = [
                    [as_number(world, raised_d(world, k)) for k in row]
                    for row in closings(family, n, m)
                ]
                self.assertEqual(worths(world, family, n, m), due)

    def test_0_raised_to_0_is_1(self):
        for world in ((0, 0), (2, 0)):
            self.assertEqual(worths(world, "parts", 0, 0), [[(1, 1)]])
            self.assertEqual(worths(world, "parts", 1, 0), [[(0, 1)]])

    def test_250_diagrams_and_more(self):
        for family, n, m in (("lonepairs", 4, 3), ("parts", 3, 3), ("loose", 4, 4)):
            self.assertEqual(len(closings(family, n, m)), counted(family, n, m))
            self.assertEqual(len(worths((7, 3), family, n, m)), counted(family, n, m))
        for family, n, m in beyond(250):
            self.assertRaises(TooLarge, closings, family, n, m)
            self.assertRaises(TooLarge, worths, (0, 2), family, n, m)

    def test_errors_in_order(self):
        for n, m in BAD_SIZES:
            self.assertRaises(NotFamily, closings, "odd", n, m)
            self.assertRaises(BadNumber, closings, "parts", n, m)
            self.assertRaises(NotWorld, worths, (4, 1), "odd", n, m)
            self.assertRaises(NotFamily, worths, (5, 1), "odd", n, m)
            self.assertRaises(BadNumber, worths, (5, 1), "parts", n, m)
        self.assertRaises(NotWorld, worths, (5, 5), "parts", 4, 4)


class DeterminantTest(unittest.TestCase):

    def test_degree_and_last_part(self):
        for family, n, m in within(30):
            found = known_determinant(family, n, m)
            degree = sum(len(diagram[2]) for diagram in listed(family, n, m))
            self.assertEqual(len(found), degree + 1)
            self.assertEqual(found[-1], 1)

    def test_values_are_determinants_of_worths(self):
        for family, n, m in within(30, 8):
            poly = known_determinant(family, n, m)
            for world in ((0, -3), (0, 0), (0, 1), (0, 5), (2, 1), (3, 2), (13, 7)):
                found = linear.determinant(world, worths(world, family, n, m))
                self.assertEqual(found, value(world, poly))

    def test_without_rows(self):
        self.assertEqual(determinant("threads", 2, 1), (1,))
        self.assertEqual(determinant("pairs", 3, 0), (1,))
        self.assertEqual(spoilt("even", 1, 0), [])
        self.assertEqual(spoilt_rests("even", 1, 0, 7), [])
        self.assertIs(is_spoilt((0, 0), "threads", 1, 0), False)

    def test_parts(self):
        for family, n, m in within(30):
            if family == "parts":
                due = (1,)
                for diagram in listed("parts", n, m):
                    due = multiplied_polys(due, falling(len(diagram[2])))
                self.assertEqual(determinant("parts", n, m), due)
                roots = [x for x, _ in spoilt("parts", n, m)]
                self.assertEqual(roots, list(range(n + m)))

    def test_fillings(self):
        for size in range(7):
            self.assertEqual(sum(fillings(shape) ** 2 for shape in shapes(size)), factorial(size))

    def test_threads(self):
        for n in range(5):
            due = (1,)
            for shape in shapes(n):
                for i, j in cells(shape):
                    due = multiplied_polys(due, to_power((j - i, 1), fillings(shape) ** 2))
            self.assertEqual(determinant("threads", n, n), due)

    def test_pairs(self):
        for k in range(4):
            due = (1,)
            for shape in shapes(k):
                twice = tuple(2 * width for width in shape)
                for i, j in cells(shape):
                    due = multiplied_polys(due, to_power((2 * j - i, 1), fillings(twice)))
            for n in range(2 * k + 1):
                self.assertEqual(determinant("pairs", n, 2 * k - n), due)

    def test_the_order_of_points_does_not_matter(self):
        for family in ("pairs", "lonepairs", "even", "parts"):
            for size in range(6):
                found = {
                    known_determinant(family, n, size - n) for n in range(size + 1)
                    if counted(family, n, size - n) <= 30
                }
                self.assertLessEqual(len(found), 1)

    def test_30_diagrams_and_more(self):
        self.assertEqual(max(counted(*size) for size in within(30)), 26)
        self.assertEqual(min(counted(*size) for size in beyond(30)), 31)
        for family, n, m in beyond(30):
            for call in (determinant, spoilt):
                self.assertRaises(TooLarge, call, family, n, m)
            self.assertRaises(TooLarge, spoilt_rests, family, n, m, 31)
            self.assertRaises(TooLarge, is_spoilt, (0, 2), family, n, m)

    def test_errors_in_order(self):
        for n, m in BAD_SIZES:
            for call in (determinant, spoilt):
                self.assertRaises(NotFamily, call, "odd", n, m)
                self.assertRaises(BadNumber, call, "parts", n, m)
            self.assertRaises(NotFamily, spoilt_rests, "odd", n, m, 4)
            self.assertRaises(BadNumber, spoilt_rests, "parts", n, m, 4)
            self.assertRaises(BadNumber, spoilt_rests, "parts", n, m, 3)
            self.assertRaises(NotWorld, is_spoilt, (0, 21), "odd", n, m)
            self.assertRaises(NotFamily, is_spoilt, (0, 20), "odd", n, m)
            self.assertRaises(BadNumber, is_spoilt, (0, 20), "parts", n, m)
        self.assertRaises(NotWorld, is_spoilt, (1, 0), "parts", 4, 4)
        for p in (-2, 0, 1, 4, 9, 33, 37, 10 ** 40):
            self.assertRaises(NotFamily, spoilt_rests, "odd", 1, 1, p)
            self.assertRaises(BadNumber, spoilt_rests, "parts", 1, 1, p)
            self.assertRaises(BadNumber, spoilt_rests, "parts", 4, 4, p)

    def test_example(self):
        self.assertEqual(closings("pairs", 2, 2), [[2, 1, 1], [1, 2, 1], [1, 1, 2]])
        due = (1,)
        for factor in ((0, 1), (0, 1), (0, 1), (2, 1), (-1, 1), (-1, 1)):
            due = multiplied_polys(due, factor)
        self.assertEqual(determinant("pairs", 2, 2), due)
        self.assertEqual(spoilt("pairs", 2, 2), [(-2, 1), (0, 3), (1, 2)])
        self.assertEqual(spoilt_rests("pairs", 2, 2, 3), [0, 1])
        self.assertEqual(spoilt_rests("pairs", 2, 2, 2), [0, 1])
        self.assertEqual(spoilt_rests("pairs", 2, 2, 5), [0, 1, 3])


class SpoiltTest(unittest.TestCase):

    def test_roots(self):
        for family, n, m in SOME:
            poly = known_determinant(family, n, m)
            found = spoilt(family, n, m)
            self.assertEqual(
                [x for x, _ in found], [x for x in range(-100, 101) if value_at(poly, x) == 0]
            )
            quotient = poly
            for x, many in found:
                for _ in range(many):
                    self.assertEqual(value_at(quotient, x), 0)
                    quotient = self.divided(quotient, x)
                self.assertNotEqual(value_at(quotient, x), 0)

    def divided(self, poly, x):
        parts = []
        carried = 0
        for part in poly[::-1]:
            carried = carried * x + part
            parts.append(carried)
        return tuple(parts[:-1][::-1])

    def test_some_written_out(self):
        self.assertEqual(spoilt("threads", 2, 2), [(-1, 1), (0, 2), (1, 1)])
        self.assertEqual(spoilt("loose", 1, 1), [(0, 2), (1, 1)])
        self.assertEqual(spoilt("loose", 8, 0), [(0, 8)])
        self.assertEqual(spoilt("parts", 0, 0), [])
        counts = Counter(dict(spoilt("parts", 2, 2)))
        self.assertEqual(counts, {0: 15, 1: 14, 2: 7, 3: 1})
        # The factors d + j - i of [126] for one row and one column of 4 cells.
        self.assertEqual(spoilt("threads", 4, 4)[0], (-3, 1))
        self.assertEqual(spoilt("threads", 4, 4)[-1], (3, 1))
        self.assertEqual(value_at(rising(4), -3), 0)

    def test_rests(self):
        for family, n, m in within(13, 6) + [("threads", 4, 4), ("pairs", 3, 3), ("parts", 2, 2)]:
            poly = known_determinant(family, n, m)
            for p in PRIMES if len(poly) < 40 else (2, 3, 31):
                found = spoilt_rests(family, n, m, p)
                self.assertEqual(found, [d for d in range(p) if value_at(poly, d) % p == 0])
                self.assertEqual(
                    found, [d for d in range(p) if is_spoilt((p, d), family, n, m)]
                )

    def test_worlds(self):
        for family, n, m in SOME:
            lost = [x for x, _ in spoilt(family, n, m)]
            for d in (-20, -3, -2, -1, 0, 1, 2, 3, 4, 5, 20):
                self.assertIs(is_spoilt((0, d), family, n, m), d in lost)
            for d in range(n + m, 21):
                self.assertIs(is_spoilt((0, d), family, n, m), False)
