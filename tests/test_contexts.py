"""Points [46], [47] and the example [48]: contexts."""

import itertools
import random
import unittest

from tests.helpers import (
    any_diagram, closing_by_hand, context_worth_by_hand, put_by_hand,
)
from threadworth.basics import hook, swap, unit
from threadworth.contexts import fits, outside, worth_in
from threadworth.diagrams import FAMILIES, counted, is_in, listed
from threadworth.errors import BadNumber, NotDiagram, TooLarge
from threadworth.putting import beside, closing, put

EMPTY = (0, 0, ())
WRONG = (1, 1, ((1,), (0,)))


def singles(n, m):
    return (n, m, tuple((k,) for k in range(n + m)))


def contexts(source, many):
    """Contexts of all small sizes, so many of each."""
    for n, m, left, right, k in itertools.product(range(4), range(4), range(3), range(3), range(3)):
        if n + m <= 5:
            for _ in range(many):
                u = any_diagram(source, k, left + n + right)
                v = any_diagram(source, left + m + right, k)
                yield n, m, (u, v, left, right)


class FitsTest(unittest.TestCase):

    def test_numbers(self):
        for n, m, context in contexts(random.Random(46), 1):
            self.assertEqual(fits(*context), (n, m))
        self.assertEqual(fits(unit(3), unit(3), 1, 1), (1, 1))
        self.assertEqual(fits(EMPTY, EMPTY, 0, 0), (0, 0))
        self.assertEqual(fits(singles(2, 5), singles(4, 2), 1, 2), (2, 1))

    def test_12_points_and_more(self):
        self.assertEqual(fits(singles(0, 8), singles(4, 0), 0, 0), (8, 4))
        self.assertEqual(fits(singles(4, 8), singles(8, 4), 1, 1), (6, 6))
        for u, v, left, right in (
            (singles(0, 8), singles(5, 0), 0, 0), (singles(4, 8), singles(8, 4), 1, 0),
            (singles(4, 8), singles(8, 4), 0, 0),
        ):
            self.assertRaises(TooLarge, fits, u, v, left, right)
            self.assertRaises(TooLarge, outside, u, v, left, right)

    def test_bad_numbers(self):
        for u, v, left, right in (
            (unit(2), unit(2), -1, 0), (unit(2), unit(2), 0, -1), (unit(2), unit(2), -1, 1),
            (unit(2), unit(2), 2, -1), (unit(2), unit(2), 2, 1), (unit(2), unit(2), 0, 3),
            (singles(2, 1), singles(2, 2), 1, 1), (singles(2, 2), singles(1, 2), 1, 1),
            (singles(1, 2), singles(2, 2), 0, 0), (unit(2), unit(2), 10 ** 40, 0),
            (unit(2), unit(2), 0, 10 ** 40),
            # More than 12 points besides, but this is told first.
            (singles(4, 8), singles(8, 3), 0, 0), (singles(4, 8), singles(8, 4), -1, 0),
        ):
            self.assertRaises(BadNumber, fits, u, v, left, right)
            self.assertRaises(BadNumber, outside, u, v, left, right)
            self.assertRaises(BadNumber, worth_in, unit(1), u, v, left, right)

    def test_no_diagrams(self):
        for function in (fits, outside):
            self.assertRaises(NotDiagram, function, WRONG, unit(1), 0, 0)
            self.assertRaises(NotDiagram, function, unit(1), WRONG, 0, 0)
            self.assertRaises(NotDiagram, function, WRONG, unit(1), -1, 9)
            self.assertRaises(NotDiagram, function, unit(2), WRONG, -1, 9)
        self.assertRaises(NotDiagram, worth_in, WRONG, unit(1), unit(1), 0, 0)
        self.assertRaises(NotDiagram, worth_in, unit(1), WRONG, unit(1), 0, 0)
        self.assertRaises(NotDiagram, worth_in, unit(1), unit(1), WRONG, 0, 0)
        self.assertRaises(NotDiagram, worth_in, WRONG, unit(1), unit(1), -1, 0)
        self.assertRaises(NotDiagram, worth_in, unit(2), unit(1), WRONG, -1, 0)


class WorthTest(unittest.TestCase):

    def test_pieces_of_all_that_is_joined(self):
        source = random.Random(47)
        for n, m, context in contexts(source, 2):
            x = any_diagram(source, n, m)
            self.assertEqual(worth_in(x, *context), context_worth_by_hand(x, *context))

    def test_loops_and_closing_of_what_is_made(self):
        for u, v in itertools.product(listed("parts", 2, 3)[::7], listed("parts", 3, 2)[::7]):
            for x in listed("parts", 1, 1):
                for left in range(3):
                    inner = beside(beside(unit(left), x), unit(2 - left))
                    first, made = put(u, inner)
                    second, made = put(made, v)
                    due = first + second + closing(made)
                    self.assertEqual(worth_in(x, u, v, left, 2 - left), due)

    def test_example(self):
        self.assertEqual(outside(unit(3), unit(3), 1, 1), (2, unit(1)))
        self.assertEqual(worth_in(unit(1), unit(3), unit(3), 1, 1), 3)
        self.assertEqual(worth_in(singles(1, 1), unit(3), unit(3), 1, 1), 3)

    def test_without_points(self):
        self.assertEqual(worth_in(EMPTY, EMPTY, EMPTY, 0, 0), 0)
        self.assertEqual(worth_in(EMPTY, unit(2), unit(2), 1, 1), 2)
        self.assertEqual(worth_in(EMPTY, unit(2), swap(2, 0), 1, 1), 1)
        self.assertEqual(outside(unit(2), hook(2, 0), 0, 2), (1, EMPTY))

    def test_large_ones(self):
        x = singles(8, 4)
        self.assertEqual(worth_in(x, singles(4, 8), singles(4, 4), 0, 0), 16)
        whole = (4, 8, (tuple(range(12)),))
        self.assertEqual(worth_in(x, whole, singles(4, 4), 0, 0), 5)
        self.assertEqual(worth_in(unit(6), unit(6), unit(6), 0, 0), 6)

    def test_diagrams_that_do_not_fit(self):
        for x in (unit(2), EMPTY, singles(1, 2), singles(2, 1)):
            self.assertRaises(BadNumber, worth_in, x, unit(3), unit(3), 1, 1)
        # A context for more than 12 points has no diagrams at all.
        for x in (unit(1), singles(8, 4), singles(6, 6)):
            self.assertRaises(BadNumber, worth_in, x, singles(4, 8), singles(8, 4), 0, 0)


class OutsideTest(unittest.TestCase):

    def test_what_is_outside_tells_all_worths(self):
        for n, m, context in contexts(random.Random(48), 1):
            loops, c = outside(*context)
            self.assertEqual(c[:2], (m, n))
            for x in listed("parts", n, m)[::5]:
                more, made = put_by_hand(x, c)
                due = context_worth_by_hand(x, *context)
                self.assertEqual(loops + more + closing_by_hand(made), due)

    def test_families(self):
        for family in FAMILIES:
            for left, right in itertools.product(range(2), repeat=2):
                for k in range(4):
                    n = m = max(0, k - left - right)
                    if counted(family, k, left + n + right) == 0:
                        continue
                    us = listed(family, k, left + n + right)
                    vs = listed(family, left + m + right, k)
                    for u, v in itertools.product(us[::len(us) // 5 + 1], vs[::len(vs) // 5 + 1]):
                        _, c = outside(u, v, left, right)
                        self.assertIs(is_in(family, c), True)

    def test_strands_to_the_left_and_right(self):
        # Which strand is closed tells the left one from the right one.
        u = (1, 2, ((0, 2), (1,)))
        v = (2, 1, ((0,), (1, 2)))
        self.assertEqual(outside(u, v, 1, 0), (1, (1, 1, ((0, 1),))))
        self.assertEqual(outside(u, v, 0, 1), (1, (1, 1, ((0,), (1,)))))
        self.assertEqual(outside(u, v, 0, 0), (0, (2, 2, ((0,), (1, 3), (2,)))))
