"""Point [24] and the example [26]: the small diagrams."""

import unittest

from threadworth.basics import bridge, cut, hook, swap, unit
from threadworth.diagrams import is_in
from threadworth.errors import BadNumber
from threadworth.texts import text_of


def strands(n, *without):
    return [(k, n + k) for k in range(n) if k not in without]


def diagram(n, blocks):
    return (n, n, tuple(sorted(blocks)))


class BasicsTest(unittest.TestCase):

    def test_units(self):
        for n in range(7):
            self.assertEqual(unit(n), diagram(n, strands(n)))

    def test_hooks_swaps_and_bridges(self):
        for n in range(2, 7):
            for i in range(n - 1):
                others = strands(n, i, i + 1)
                self.assertEqual(hook(n, i), diagram(n, others + [(i, i + 1), (n + i, n + i + 1)]))
                self.assertEqual(swap(n, i), diagram(n, others + [(i, n + i + 1), (i + 1, n + i)]))
                self.assertEqual(bridge(n, i), diagram(n, others + [(i, i + 1, n + i, n + i + 1)]))

    def test_cuts(self):
        for n in range(1, 7):
            for i in range(n):
                self.assertEqual(cut(n, i), diagram(n, strands(n, i) + [(i,), (n + i,)]))

    def test_example(self):
        self.assertEqual(hook(2, 0), (2, 2, ((0, 1), (2, 3))))
        self.assertEqual(swap(2, 0), (2, 2, ((0, 3), (1, 2))))
        self.assertEqual(text_of(hook(2, 0)), "aa|bb")
        self.assertEqual(text_of(swap(2, 0)), "ab|ba")
        self.assertEqual(text_of(bridge(2, 0)), "aa|aa")
        self.assertEqual(text_of(cut(2, 1)), "ab|ac")
        self.assertEqual(unit(0), (0, 0, ()))

    def test_families(self):
        for family, made in (
            ("threads", swap(6, 4)), ("loose", cut(6, 5)), ("pairs", hook(6, 4)),
            ("even", bridge(6, 4)), ("threads", unit(6)),
        ):
            self.assertIs(is_in(family, made), True)

    def test_strands_out_of_range(self):
        for n in (-1, 7, 8, 10 ** 40, -10 ** 40):
            self.assertRaises(BadNumber, unit, n)
            for function in (hook, swap, bridge, cut):
                self.assertRaises(BadNumber, function, n, 0)

    def test_indexes_out_of_range(self):
        for n in range(7):
            for function in (hook, swap, bridge):
                for i in (-1, n - 1, n, 10 ** 40):
                    if n < 2 or not 0 <= i < n - 1:
                        self.assertRaises(BadNumber, function, n, i)
            for i in (-1, n, n + 1, 10 ** 40):
                self.assertRaises(BadNumber, cut, n, i)
        for function in (hook, swap, bridge):
            self.assertRaises(BadNumber, function, 0, 0)
            self.assertRaises(BadNumber, function, 1, 0)
        self.assertRaises(BadNumber, cut, 0, 0)
