"""Points [4], [5], [6], [7]: polynomials."""

import itertools
import unittest
from math import comb

from threadworth.errors import BadNumber, NoAnswer, NotPoly, NotWorld, TooLarge
from threadworth.polys import (
    added, by_falling, check_poly, divided, falling, is_poly, multiplied_polys, power_of_d,
    rising, roots, subtracted, value, value_at,
)

SMALL = [()] + [
    parts for size in (1, 2, 3) for parts in itertools.product(range(-2, 3), repeat=size)
    if parts[-1]
]
WRONG = ((0,), (1, 0), (0, 0), (1,) * 201)


def worth(parts, x):
    return sum(part * x ** k for k, part in enumerate(parts))


def product_of(*factors):
    product = (1,)
    for factor in factors:
        product = multiplied_polys(product, factor)
    return product


class FormTest(unittest.TestCase):

    def test_polynomials(self):
        for poly in ((), (1,), (-5,), (0, 1), (0, 0, 3), (1,) * 200, (0,) * 199 + (-1,)):
            self.assertIs(is_poly(poly), True)
            self.assertIsNone(check_poly(poly))

    def test_other_tuples(self):
        for poly in WRONG + ((1,) * 200 + (0,), (0,) * 200):
            self.assertIs(is_poly(poly), False)
            self.assertRaises(NotPoly, check_poly, poly)

    def test_each_function_raises_not_poly_first(self):
        for wrong in WRONG:
            for function in (added, subtracted, multiplied_polys, divided):
                self.assertRaises(NotPoly, function, wrong, (1,))
                self.assertRaises(NotPoly, function, (1,), wrong)
                self.assertRaises(NotPoly, function, wrong, wrong)
            self.assertRaises(NotPoly, divided, wrong, ())
            self.assertRaises(NotPoly, multiplied_polys, (), wrong)
            self.assertRaises(NotPoly, multiplied_polys, wrong, ())
            self.assertRaises(NotPoly, value_at, wrong, 1)
            self.assertRaises(NotPoly, value, (0, 1), wrong)
            self.assertRaises(NotPoly, roots, wrong)
            self.assertRaises(NotPoly, roots, wrong, most=1001)
            self.assertRaises(NotPoly, by_falling, wrong)


class ReckoningTest(unittest.TestCase):

    def test_sums_differences_and_products_by_their_values(self):
        for one, other in itertools.product(SMALL[::3], SMALL):
            total = added(one, other)
            less = subtracted(one, other)
            product = multiplied_polys(one, other)
            for found in (total, less, product):
                self.assertIsInstance(found, tuple)
                self.assertTrue(is_poly(found))
            for x in range(-3, 4):
                self.assertEqual(worth(total, x), worth(one, x) + worth(other, x))
                self.assertEqual(worth(less, x), worth(one, x) - worth(other, x))
                self.assertEqual(worth(product, x), worth(one, x) * worth(other, x))

    def test_what_becomes_0_at_the_end_goes(self):
        self.assertEqual(added((1, 2, 3), (0, 0, -3)), (1, 2))
        self.assertEqual(added((1, 2), (-1, -2)), ())
        self.assertEqual(subtracted((0, 0, 3), (0, 0, 3)), ())
        self.assertEqual(subtracted((), (1, 2)), (-1, -2))
        self.assertEqual(added((0, 1), ()), (0, 1))

    def test_products_of_200_and_201_parts(self):
        self.assertEqual(len(multiplied_polys((1,) * 200, (2,))), 200)
        self.assertEqual(len(multiplied_polys((1,) * 100, (1,) * 101)), 200)
        self.assertRaises(TooLarge, multiplied_polys, (1,) * 101, (1,) * 101)
        self.assertRaises(TooLarge, multiplied_polys, (1,) * 200, (0, 1))
        self.assertEqual(multiplied_polys((1,) * 200, ()), ())
        self.assertEqual(multiplied_polys((), (1,) * 200), ())

    def test_quotients(self):
        for one, other in itertools.product(SMALL[::2], SMALL):
            if other:
                product = multiplied_polys(one, other)
                self.assertEqual(divided(product, other), one)

    def test_quotients_that_are_none(self):
        for one, other in (
            ((1,), (2,)), ((1,), (0, 1)), ((0, 1), (0, 2)), ((1, 1), (2, 1)), ((1, 0, 1), (1, 1)),
            ((1, 0, 2), (0, 2)), ((3, 2), (2,)), ((0, 1), (0, 0, 1)), ((0, 3, 2), (0, 2)),
        ):
            self.assertRaises(NoAnswer, divided, one, other)

    def test_division_of_and_by_0(self):
        self.assertEqual(divided((), (5,)), ())
        self.assertEqual(divided((), (0, 0, 5)), ())
        self.assertRaises(BadNumber, divided, (1,), ())
        self.assertRaises(BadNumber, divided, (), ())

    def test_quotients_by_signs(self):
        self.assertEqual(divided((4, -6), (-2,)), (-2, 3))
        self.assertEqual(divided((-1, 0, 1), (1, -1)), (-1, -1))

    def test_long_quotients(self):
        product = multiplied_polys((3,) * 100, (-1, 2))
        self.assertEqual(divided(product, (-1, 2)), (3,) * 100)
        self.assertEqual(divided((1,) * 200, (1,) * 200), (1,))


class ValueTest(unittest.TestCase):

    def test_values_at_integers(self):
        for poly in SMALL:
            for x in range(-4, 5):
                self.assertEqual(value_at(poly, x), worth(poly, x))
        self.assertEqual(value_at((), 10 ** 50), 0)
        self.assertEqual(value_at((1, 0, 2), 10 ** 50), 2 * 10 ** 100 + 1)
        self.assertEqual(value_at((1,) * 200, 1), 200)
        self.assertEqual(value_at((0,) * 199 + (1,), -3), -3 ** 199)

    def test_values_in_worlds(self):
        self.assertEqual(value((0, -3), (1, 2, 1)), (4, 1))
        self.assertEqual(value((7, 3), (6, 0, 2)), (3, 1))
        self.assertEqual(value((7, 3), (-2, 3)), (0, 1))
        self.assertEqual(value((2, 1), ()), (0, 1))
        for poly in SMALL:
            for d in range(5):
                self.assertEqual(value((5, d), poly), (worth(poly, d) % 5, 1))
                self.assertEqual(value((0, -d), poly), (worth(poly, -d), 1))

    def test_a_wrong_world_is_told_ahead_of_a_wrong_polynomial(self):
        self.assertRaises(NotWorld, value, (0, 21), (1,))
        self.assertRaises(NotWorld, value, (4, 1), (0,))


class RootsTest(unittest.TestCase):

    def test_roots_with_how_often(self):
        poly = product_of((0, 1), (0, 1), (-2, 1), (3, 1), (3, 1), (3, 1), (1, 0, 1), (5,))
        self.assertEqual(roots(poly), [(-3, 3), (0, 2), (2, 1)])
        self.assertEqual(roots((1, 0, 1)), [])
        self.assertEqual(roots((7,)), [])
        self.assertEqual(roots((-1, 2)), [])
        self.assertEqual(roots((-1, 1, 2)), [(-1, 1)])
        self.assertEqual(roots((0,) * 199 + (1,)), [(0, 199)])

    def test_roots_at_the_bound(self):
        poly = product_of((1000, 1), (-1000, 1), (1001, 1), (-1001, 1), (-7, 1))
        self.assertEqual(roots(poly), [(-1000, 1), (7, 1), (1000, 1)])
        self.assertEqual(roots(poly, most=1000), [(-1000, 1), (7, 1), (1000, 1)])
        self.assertEqual(roots(poly, most=999), [(7, 1)])
        self.assertEqual(roots(poly, most=7), [(7, 1)])
        self.assertEqual(roots(poly, most=6), [])
        self.assertEqual(roots((0, 1, 1), most=0), [(0, 1)])

    def test_0_has_no_list(self):
        self.assertRaises(NoAnswer, roots, ())
        self.assertRaises(NoAnswer, roots, (), most=1001)

    def test_the_bound_is_from_0_to_1000(self):
        for most in (-1, 1001, 10 ** 40):
            self.assertRaises(BadNumber, roots, (1, 1), most=most)

    def test_the_bound_is_told_by_its_name(self):
        self.assertRaises(TypeError, roots, (1, 1), 5)


class FallingTest(unittest.TestCase):

    def test_example(self):
        self.assertEqual(falling(3), (0, 2, -3, 1))
        self.assertEqual(roots(falling(3)), [(0, 1), (1, 1), (2, 1)])
        self.assertEqual(by_falling((0, 0, 1)), [0, 1, 1])
        self.assertEqual(added(falling(1), falling(2)), (0, 0, 1))

    def test_all_counts(self):
        up = down = (1,)
        for count in range(41):
            self.assertEqual(falling(count), down)
            self.assertEqual(rising(count), up)
            self.assertEqual(power_of_d(count), (0,) * count + (1,))
            down = multiplied_polys(down, (-count, 1))
            up = multiplied_polys(up, (count, 1))

    def test_values(self):
        for count in range(41):
            self.assertEqual(
                [value_at(falling(count), x) for x in range(count)], [0] * count)
            fact = value_at(falling(count), count)
            self.assertEqual(value_at(falling(count), count + 2), fact * comb(count + 2, 2))
            self.assertEqual(value_at(rising(count), 1), fact)
        self.assertEqual(rising(3), (0, 2, 3, 1))

    def test_counts_beyond(self):
        for function in (falling, rising, power_of_d):
            for count in (-1, 41, 10 ** 40):
                self.assertRaises(BadNumber, function, count)

    def test_by_falling_has_an_integer_for_each_part(self):
        self.assertEqual(by_falling(()), [])
        self.assertEqual(by_falling((5,)), [5])
        for poly in SMALL:
            found = by_falling(poly)
            self.assertEqual(len(found), len(poly))
            total = ()
            for k, factor in enumerate(found):
                if factor:
                    total = added(total, multiplied_polys((factor,), falling(k)))
            self.assertEqual(total, poly)

    def test_by_falling_of_falling(self):
        for count in range(41):
            self.assertEqual(by_falling(falling(count)), [0] * count + [1])

    def test_by_falling_of_200_parts(self):
        found = by_falling((0,) * 199 + (1,))
        self.assertEqual(len(found), 200)
        # These are the numbers of ways to part 199 things into k blocks.
        self.assertEqual((found[0], found[1], found[2]), (0, 1, 2 ** 198 - 1))
        self.assertEqual((found[198], found[199]), (comb(199, 2), 1))

    def test_lists_are_not_shared(self):
        first = by_falling((1, 2))
        first.append(9)
        self.assertEqual(by_falling((1, 2)), [1, 2])
        first = roots((0, 1))
        first.append(9)
        self.assertEqual(roots((0, 1)), [(0, 1)])
