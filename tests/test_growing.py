"""Points [220] to [227]: strands more and less, and averages."""

import itertools
import math
import random
import unittest
from fractions import Fraction

from tests.helpers import (
    added_terms, any_diagram, any_terms, as_number, as_value, components, diagram_of_components,
    family_diagrams, named_groups, named_points, raised_d,
)
from threadworth.alike import is_lost
from threadworth.basics import cut, hook, swap, unit
from threadworth.diagrams import FAMILIES, listed
from threadworth.errors import BadNumber, NoAnswer, NotWorld
from threadworth.falling import arrangement, sign
from threadworth.growing import (
    alternated, alternating, alternating_worth, average, average_worth, averaged, grown,
    hook_square, hooked, is_own_square, shrunk,
)
from threadworth.putting import beside
from threadworth.sums import Sum, unit_sum, zero_sum

FRACTIONS = ((0, 2), (0, 0), (0, 1), (0, -1), (0, -3), (0, 20), (0, -20), (0, 3))
RESTS = ((2, 0), (2, 1), (3, 2), (5, 0), (7, 3), (31, 30))
WORLDS = FRACTIONS + RESTS
WRONG_WORLDS = ((0, 21), (0, -21), (4, 1), (5, 5), (5, -1), (37, 0), (-2, 0))
SIZES = ((0, 0), (1, 1), (2, 1), (1, 2), (3, 3), (0, 3), (2, 4))
HUGE = 10 ** 40


def any_sum(source, world, n, m, many=4):
    diagrams = [any_diagram(source, n, m) for _ in range(many)]
    return Sum(world, n, m, any_terms(source, world, diagrams, many))


def has_average(world, n):
    return world[0] == 0 or world[0] > n


def shrunk_by_hand(one):
    """The terms with the last points closed, by components."""
    pairs = []
    for diagram, x in one.terms():
        groups = named_groups(diagram, "x")
        groups.append([("x", "above", one.n - 1), ("x", "below", one.m - 1)])
        pieces = components(named_points(diagram, "x"), groups)
        above = [("x", "above", k) for k in range(one.n - 1)]
        below = [("x", "below", k) for k in range(one.m - 1)]
        shown = set(above + below)
        loops = len([piece for piece in pieces if not piece & shown])
        worth = as_value(one.world, x) * raised_d(one.world, loops)
        pairs.append((diagram_of_components(above, below, pieces), as_number(one.world, worth)))
    return added_terms(one.world, pairs)


def hook_at_end(world, n):
    return Sum(world, n + 1, n + 1, [(hook(n + 1, n - 1), (1, 1))])


class GrownTest(unittest.TestCase):

    def test_beside_the_unit(self):
        source = random.Random(220)
        for world in WORLDS:
            for n, m in SIZES:
                one = any_sum(source, world, n, m)
                before = one.terms()
                found = grown(one)
                self.assertEqual((found.world, found.n, found.m), (world, n + 1, m + 1))
                self.assertEqual(dict(found.terms()), {
                    beside(diagram, unit(1)): x for diagram, x in before
                })
                self.assertEqual(one.terms(), before)

    def test_shrunk(self):
        source = random.Random(221)
        for world in WORLDS:
            for n, m in ((1, 1), (2, 2), (1, 4), (4, 4), (3, 2), (7, 1)):
                one = any_sum(source, world, n, m, 6)
                before = one.terms()
                found = shrunk(one)
                self.assertEqual((found.world, found.n, found.m), (world, n - 1, m - 1))
                self.assertEqual(dict(found.terms()), shrunk_by_hand(one))
                self.assertEqual(one.terms(), before)
        # Both become the unit: one with the worth of a loop, one without.
        one = Sum((0, 5), 2, 2, [(unit(2), (1, 1)), (swap(2, 0), (-5, 1))])
        self.assertEqual(shrunk(one), zero_sum((0, 5), 1, 1))
        self.assertEqual(shrunk(unit_sum((0, 5), 2)).terms(), [(unit(1), (5, 1))])
        self.assertEqual(shrunk(unit_sum((0, 0), 2)), zero_sum((0, 0), 1, 1))
        self.assertEqual(shrunk(unit_sum((0, 7), 1)).terms(), [((0, 0, ()), (7, 1))])

    def test_grown_and_then_shrunk(self):
        # [221]
        source = random.Random(222)
        for world in WORLDS:
            d = as_number(world, world[1])
            for n, m, q in ((0, 0, 0), (1, 2, 1), (2, 2, 2), (3, 1, 2), (0, 3, 3)):
                one, other = any_sum(source, world, n, m), any_sum(source, world, m, q)
                self.assertEqual(shrunk(grown(one)), one.scaled(d))
                self.assertEqual(grown(one) * grown(other), grown(one * other))

    def test_between_grown_sums(self):
        source = random.Random(223)
        for world in WORLDS:
            for q, n, m, r in ((1, 1, 1, 1), (2, 1, 2, 0), (0, 2, 1, 2), (1, 3, 2, 2)):
                a, b = any_sum(source, world, q, n, 3), any_sum(source, world, m, r, 3)
                x = any_sum(source, world, n + 1, m + 1, 3)
                self.assertEqual(shrunk(grown(a) * x * grown(b)), a * shrunk(x) * b)

    def test_worths_and_families(self):
        source = random.Random(224)
        for world in WORLDS:
            for n in (1, 2, 3, 4):
                one = any_sum(source, world, n, n)
                self.assertEqual(one.worth(), shrunk(one).worth())
                if n < 4:
                    d = as_value(world, one.worth()) * world[1]
                    self.assertEqual(grown(one).worth(), as_number(world, d))
        for family in FAMILIES:
            for diagram in family_diagrams(family, 2, 2) + family_diagrams(family, 1, 3):
                one = Sum((0, 2), diagram[0], diagram[1], [(diagram, (1, 1))])
                self.assertTrue(grown(one).is_in(family))
                self.assertTrue(shrunk(one).is_in(family))

    def test_7_and_8_points(self):
        for n, m in ((4, 3), (7, 0), (4, 4), (8, 0), (0, 8), (3, 4), (0, 7)):
            self.assertRaises(BadNumber, grown, zero_sum((0, 2), n, m))
        for n, m in ((3, 3), (6, 0), (0, 6), (2, 4)):
            self.assertEqual(grown(zero_sum((0, 2), n, m)), zero_sum((0, 2), n + 1, m + 1))
        for n, m in ((0, 0), (0, 1), (3, 0), (0, 8), (8, 0)):
            self.assertRaises(BadNumber, shrunk, zero_sum((0, 2), n, m))
        self.assertEqual(shrunk(zero_sum((0, 2), 4, 4)), zero_sum((0, 2), 3, 3))
        self.assertEqual(shrunk(zero_sum((0, 2), 1, 7)), zero_sum((0, 2), 0, 6))


class HookedTest(unittest.TestCase):

    def test_between_hooks(self):
        # [222]
        source = random.Random(225)
        for world in WORLDS:
            for n in (1, 2, 3):
                a = any_sum(source, world, n, n)
                h = hook_at_end(world, n)
                wide = shrunk(a).beside(unit_sum(world, 2))
                self.assertEqual(h * grown(a) * h, wide * h)

    def test_hooked(self):
        source = random.Random(226)
        for world in WORLDS:
            for q, n, r in ((1, 1, 1), (2, 2, 2), (0, 1, 2), (3, 2, 0), (3, 3, 3), (2, 2, 4)):
                a, b = any_sum(source, world, q, n, 3), any_sum(source, world, n, r, 3)
                before = (a.terms(), b.terms())
                found = hooked(a, b)
                self.assertEqual(found, grown(a) * hook_at_end(world, n) * grown(b))
                self.assertEqual((found.n, found.m), (q + 1, r + 1))
                self.assertEqual(shrunk(found), a * b)
                self.assertEqual((a.terms(), b.terms()), before)
                if q == r:
                    self.assertEqual(found.worth(), (a * b).worth())

    def test_units(self):
        self.assertEqual(
            hooked(unit_sum((0, 2), 1), unit_sum((0, 2), 1)).terms(), [(hook(2, 0), (1, 1))]
        )
        self.assertEqual(hooked(unit_sum((3, 1), 3), zero_sum((3, 1), 3, 3)),
                         zero_sum((3, 1), 4, 4))

    def test_errors(self):
        world = (0, 2)
        for one, other in (
            (unit_sum(world, 1), unit_sum((0, 1), 1)), (unit_sum(world, 1), unit_sum((3, 2), 1)),
            (unit_sum(world, 2), unit_sum(world, 1)), (unit_sum(world, 1), unit_sum(world, 2)),
            (unit_sum(world, 0), unit_sum(world, 0)),
            (zero_sum(world, 3, 0), zero_sum(world, 0, 3)),
            (unit_sum(world, 4), unit_sum(world, 4)),
            (zero_sum(world, 0, 4), zero_sum(world, 4, 0)),
            (zero_sum(world, 4, 3), zero_sum(world, 3, 0)),
            (zero_sum(world, 0, 3), zero_sum(world, 3, 4)),
            (zero_sum(world, 6, 1), zero_sum(world, 1, 1)),
            # Each of both can be grown, but what is made would have 10 points.
            (zero_sum(world, 4, 1), zero_sum(world, 1, 4)),
        ):
            self.assertRaises(BadNumber, hooked, one, other)
        self.assertEqual(
            hooked(zero_sum(world, 5, 1), zero_sum(world, 1, 1)), zero_sum(world, 6, 2)
        )


class AverageTest(unittest.TestCase):

    def test_all_threads(self):
        for world in WORLDS:
            for n in range(5):
                if not has_average(world, n):
                    continue
                due = as_number(world, Fraction(1, math.factorial(n)))
                one = average(world, n)
                self.assertEqual((one.world, one.n, one.m), (world, n, n))
                self.assertEqual(one.terms(), [(c, due) for c in listed("threads", n, n)])
                turned = as_number(world, Fraction(-1, math.factorial(n)))
                self.assertEqual(alternating(world, n).terms(), [
                    (c, due if sign(arrangement(c)) == 1 else turned)
                    for c in listed("threads", n, n)
                ])

    def test_products(self):
        # [223]
        for world in WORLDS:
            minus = as_number(world, -1)
            for n in range(5):
                if not has_average(world, n) or (n == 4 and world not in ((0, -1), (5, 0))):
                    continue
                even, odd = average(world, n), alternating(world, n)
                for c in listed("threads", n, n)[::3]:
                    one = Sum(world, n, n, [(c, (1, 1))])
                    self.assertEqual((one * even, even * one), (even, even))
                    signed = odd if sign(arrangement(c)) == 1 else odd.scaled(minus)
                    self.assertEqual((one * odd, odd * one), (signed, signed))
                self.assertEqual((even * even, odd * odd), (even, odd))
                self.assertIs(is_own_square(even), True)
                self.assertIs(is_own_square(odd), True)
                if n >= 2:
                    self.assertEqual(even * odd, zero_sum(world, n, n))
                    self.assertEqual(odd * even, zero_sum(world, n, n))
                else:
                    self.assertEqual((even, odd), (unit_sum(world, n), unit_sum(world, n)))

    def test_worths(self):
        # [224]
        for world in WORLDS:
            d = world[1]
            for n in range(21):
                if not has_average(world, n):
                    self.assertRaises(NoAnswer, average_worth, world, n)
                    self.assertRaises(NoAnswer, alternating_worth, world, n)
                    continue
                up, down = Fraction(1), Fraction(1)
                for k in range(n):
                    up *= Fraction(d + k, k + 1)
                    down *= Fraction(d - k, k + 1)
                self.assertEqual(average_worth(world, n), as_number(world, up))
                self.assertEqual(alternating_worth(world, n), as_number(world, down))
                if n <= 4:
                    self.assertEqual(average_worth(world, n), average(world, n).worth())
                    self.assertEqual(alternating_worth(world, n), alternating(world, n).worth())

    def test_shrunk_averages(self):
        # [225]
        for world in WORLDS:
            d = world[1]
            for n in range(1, 5):
                if has_average(world, n):
                    more = as_number(world, Fraction(d + n - 1, n))
                    less = as_number(world, Fraction(d - n + 1, n))
                    self.assertEqual(shrunk(average(world, n)), average(world, n - 1).scaled(more))
                    self.assertEqual(
                        shrunk(alternating(world, n)), alternating(world, n - 1).scaled(less)
                    )

    def test_made_from_the_one_before(self):
        for world in WORLDS:
            for n in range(1, 4):
                if not has_average(world, n + 1):
                    continue
                crossed = Sum(world, n + 1, n + 1, [(swap(n + 1, n - 1), (1, 1))])
                many, part = as_number(world, n), as_number(world, Fraction(1, n + 1))
                a = grown(average(world, n))
                self.assertEqual(
                    average(world, n + 1), (a + (a * crossed * a).scaled(many)).scaled(part)
                )
                a = grown(alternating(world, n))
                self.assertEqual(
                    alternating(world, n + 1), (a - (a * crossed * a).scaled(many)).scaled(part)
                )

    def test_lost_averages(self):
        for d in range(4):
            self.assertIs(is_lost(alternating((0, d), d + 1), "threads"), True)
            self.assertIs(is_lost(alternating((0, d), d), "threads"), False)
        for d in range(-3, 0):
            self.assertIs(is_lost(average((0, d), 1 - d), "threads"), True)

    def test_example(self):
        even, odd = average((0, 3), 2), alternating((0, 3), 2)
        self.assertEqual((even.worth(), odd.worth()), ((6, 1), (3, 1)))
        self.assertEqual(shrunk(even), unit_sum((0, 3), 1).scaled((2, 1)))
        self.assertEqual(shrunk(odd), unit_sum((0, 3), 1))
        self.assertRaises(NoAnswer, average, (2, 1), 2)

    def test_errors_in_order(self):
        for function in (average, alternating, average_worth, alternating_worth):
            most = 4 if function in (average, alternating) else 20
            for world in WRONG_WORLDS:
                self.assertRaises(NotWorld, function, world, -1)
                self.assertRaises(NotWorld, function, world, 2)
            for n in (-1, most + 1, HUGE, -HUGE):
                self.assertRaises(BadNumber, function, (0, 2), n)
                self.assertRaises(BadNumber, function, (2, 0), n)
            for p in (2, 3, 5, 7, 11, 13, 17, 19, 23, 29, 31):
                for n in range(most + 1):
                    if 1 <= p <= n:
                        self.assertRaises(NoAnswer, function, (p, 1), n)
                    else:
                        function((p, 1), n)


class SquareTest(unittest.TestCase):

    def test_own_squares(self):
        # [226]
        source = random.Random(227)
        for world in WORLDS:
            for n in range(4):
                tried = [any_sum(source, world, n, n, 2), unit_sum(world, n),
                         zero_sum(world, n, n)]
                if has_average(world, n):
                    tried += [average(world, n), alternating(world, n)]
                for one in tried:
                    self.assertIs(is_own_square(one), one * one == one)
                    if is_own_square(one):
                        other = unit_sum(world, n) - one
                        self.assertIs(is_own_square(other), True)
                        self.assertEqual(one * other, zero_sum(world, n, n))
                        self.assertEqual(other * one, zero_sum(world, n, n))
        one = Sum((0, 2), 1, 1, [(unit(1), (1, 1)), (cut(1, 0), (-1, 2))])
        self.assertIs(is_own_square(one), True)
        self.assertIs(is_own_square(one.scaled((2, 1))), False)

    def test_hooks(self):
        for world in WORLDS:
            d = world[1]
            for n in range(2, 5):
                for i in range(n - 1):
                    if d == 0:
                        self.assertRaises(NoAnswer, hook_square, world, n, i)
                        continue
                    one = hook_square(world, n, i)
                    self.assertEqual(
                        one.terms(), [(hook(n, i), as_number(world, Fraction(1, d)))]
                    )
                    self.assertEqual((one.world, one.n, one.m), (world, n, n))
                    self.assertIs(is_own_square(one), True)
                    self.assertEqual(one.worth(), as_number(world, d ** (n - 2)))

    def test_averaged_sums(self):
        source = random.Random(228)
        for world in WORLDS:
            for n, m in ((0, 0), (1, 1), (2, 2), (3, 1), (0, 3), (3, 3), (2, 4)):
                one = any_sum(source, world, n, m, 3)
                before = one.terms()
                for function, made in ((averaged, average), (alternated, alternating)):
                    if not has_average(world, max(n, m)):
                        self.assertRaises(NoAnswer, function, one)
                        continue
                    found = function(one)
                    self.assertEqual(found, made(world, n) * one * made(world, m))
                    self.assertEqual((found.n, found.m), (n, m))
                    self.assertEqual(function(found), found)
                self.assertEqual(one.terms(), before)

    def test_errors_in_order(self):
        for one in (zero_sum((0, 2), 1, 2), zero_sum((0, 2), 3, 0), zero_sum((5, 2), 0, 8)):
            self.assertRaises(BadNumber, is_own_square, one)
        for function in (averaged, alternated):
            for n, m in ((5, 0), (0, 5), (5, 3), (8, 0), (1, 7)):
                self.assertRaises(BadNumber, function, zero_sum((0, 2), n, m))
            # For n first: there is no average of 3 strands, and m is more than 4.
            self.assertRaises(NoAnswer, function, zero_sum((2, 1), 3, 5))
            self.assertRaises(NoAnswer, function, zero_sum((3, 1), 3, 5))
            self.assertRaises(BadNumber, function, zero_sum((5, 1), 3, 5))
            self.assertRaises(BadNumber, function, zero_sum((2, 1), 5, 3))
            self.assertRaises(BadNumber, function, zero_sum((2, 1), 1, 5))
            self.assertRaises(NoAnswer, function, zero_sum((2, 1), 1, 2))
            self.assertRaises(NoAnswer, function, zero_sum((2, 1), 2, 1))
            self.assertEqual(function(zero_sum((2, 1), 1, 1)), zero_sum((2, 1), 1, 1))
            self.assertEqual(function(zero_sum((5, 1), 4, 4)), zero_sum((5, 1), 4, 4))
        for world in WRONG_WORLDS:
            self.assertRaises(NotWorld, hook_square, world, 9, 9)
        for world in ((0, 2), (0, 0), (5, 0)):
            for n, i in itertools.product((-1, 0, 1, 2, 4, 5, 6, HUGE), (-1, 0, 1, 3, 4, HUGE)):
                if not (n in (2, 4) and 0 <= i < n - 1):
                    self.assertRaises(BadNumber, hook_square, world, n, i)
