"""Points [200] to [204] and the example [207]: what goes through."""

import itertools
import random
import unittest

from tests.helpers import (
    any_diagram, family_diagrams, family_test, named_groups, put_by_hand, sizes_up_to,
)
from threadworth.basics import bridge, cut, hook, swap, unit
from threadworth.diagrams import FAMILIES, counted, is_diagram, listed
from threadworth.errors import BadNumber, NotDiagram, NotFamily
from threadworth.putting import over, put
from threadworth.texts import read_diagram, text_of
from threadworth.through import by_through, led, lower, middle, through, upper

WRONG = (1, 1, ((1,), (0,)))
LEADING = ("threads", "loose", "pairs", "lonepairs", "parts")
HUGE = 10 ** 40


def through_by_hand(diagram):
    sides = [{point[1] for point in block} for block in named_groups(diagram, "x")]
    return len([side for side in sides if side == {"above", "below"}])


def some_diagrams(source, sizes, many=25):
    return [any_diagram(source, n, m) for n, m in sizes for _ in range(many)]


def ordered_blocks(diagram, below):
    """Tell if the points of one side are in blocks of their own, in order, that go through."""
    n, m, blocks = diagram
    points = range(n, n + m) if below else range(n)
    firsts = []
    for point in points:
        block = next(block for block in blocks if point in block)
        others = [k for k in block if (k < n) == below]
        mates = [k for k in block if (k < n) != below]
        if mates != [point] or not others:
            return False
        firsts.append(others[0])
    return firsts == sorted(firsts)


class PartsTest(unittest.TestCase):

    def test_examples(self):
        for text, parts in (
            ("aab|bcc", ["aab|b", "a|a", "a|abb"]), ("aa|bb", ["aa|", "|", "|aa"]),
            ("ab|ba", ["ab|ab", "ab|ba", "ab|ab"]), ("|", ["|", "|", "|"]),
            ("aa|aa", ["aa|a", "a|a", "a|aa"]), ("a|b", ["a|", "|", "|a"]),
            ("abcb|dbae", ["abcb|ab", "ab|ba", "ab|cabd"]), ("|ab", ["|", "|", "|ab"]),
            ("abca|cbad", ["abca|abc", "abc|cba", "abc|abcd"]),
        ):
            diagram = read_diagram(text)
            found = [text_of(part) for part in (upper(diagram), middle(diagram), lower(diagram))]
            self.assertEqual(found, parts, text)

    def test_how_many_go_through(self):
        for n, m in sizes_up_to(6):
            for diagram in family_diagrams("parts", n, m):
                self.assertEqual(through(diagram), through_by_hand(diagram))
        self.assertEqual(through(unit(6)), 6)
        self.assertEqual(through(bridge(6, 2)), 5)
        self.assertEqual(through(cut(6, 5)), 5)
        self.assertEqual(through(hook(6, 0)), 4)
        self.assertEqual(through((8, 4, (tuple(range(12)),))), 1)

    def check_parts(self, diagram):
        n, m, blocks = diagram
        t = through_by_hand(diagram)
        parts = (upper(diagram), middle(diagram), lower(diagram))
        self.assertEqual([part[:2] for part in parts], [(n, t), (t, t), (t, m)])
        self.assertTrue(all(is_diagram(part) for part in parts))
        first, made = put(parts[0], parts[1])
        second, made = put(made, parts[2])
        self.assertEqual((first, second, made), (0, 0, diagram))
        self.assertTrue(ordered_blocks(parts[0], True))
        self.assertTrue(ordered_blocks(parts[2], False))
        self.assertTrue(family_test("threads", t, parts[1][2]))
        return parts

    def test_three_parts_make_the_diagram_again(self):
        source = random.Random(200)
        large = ((8, 4), (4, 8), (6, 6), (8, 0), (0, 8), (5, 7), (1, 8))
        for diagram in some_diagrams(source, large):
            self.check_parts(diagram)
        for n, m in sizes_up_to(6):
            for diagram in family_diagrams("parts", n, m):
                self.check_parts(diagram)

    def test_parts_are_in_the_family_but_for_even_ones(self):
        for n, m in sizes_up_to(6):
            for family in LEADING:
                for diagram in family_diagrams(family, n, m):
                    for part in (upper(diagram), middle(diagram), lower(diagram)):
                        self.assertTrue(family_test(family, part[0], part[2]))
        self.assertEqual(text_of(upper(bridge(2, 0))), "aa|a")

    def test_no_other_way(self):
        for n, m in ((0, 0), (1, 1), (2, 2), (3, 2), (1, 4), (3, 3)):
            made = {}
            for t in range(min(n, m) + 1):
                uppers = [one for one in family_diagrams("parts", n, t) if ordered_blocks(one, True)]
                lowers = [
                    one for one in family_diagrams("parts", t, m) if ordered_blocks(one, False)
                ]
                threads = family_diagrams("threads", t, t)
                for parts in itertools.product(uppers, threads, lowers):
                    _, above = put(parts[0], parts[1])
                    _, diagram = put(above, parts[2])
                    self.assertNotIn(diagram, made)
                    made[diagram] = parts
            self.assertEqual(len(made), counted("parts", n, m))
            for diagram, parts in made.items():
                self.assertEqual((upper(diagram), middle(diagram), lower(diagram)), parts)

    def test_errors(self):
        for function in (through, upper, middle, lower):
            for wrong in (WRONG, (9, 1, ()), (1, 1, ((0, 1), ())), (7, 6, ()), (-1, 0, ())):
                self.assertRaises(NotDiagram, function, wrong)


class CountTest(unittest.TestCase):

    def test_at_most_as_many_as_through_each(self):
        source = random.Random(202)
        for n, m, q in ((2, 2, 2), (3, 1, 3), (4, 5, 3), (6, 6, 6), (0, 8, 4), (4, 8, 4)):
            for _ in range(60):
                one, other = any_diagram(source, n, m), any_diagram(source, m, q)
                _, made = put(one, other)
                self.assertLessEqual(through(made), min(through(one), through(other)))

    def test_by_through_against_lists(self):
        for family in FAMILIES:
            for n, m in sizes_up_to(7):
                due = [0] * (min(n, m) + 1)
                for diagram in family_diagrams(family, n, m):
                    due[through_by_hand(diagram)] += 1
                self.assertEqual(by_through(family, n, m), due)

    def test_8_to_12_points(self):
        for family in FAMILIES:
            for n, m in sizes_up_to(12):
                found = by_through(family, n, m)
                self.assertEqual(len(found), min(n, m) + 1)
                self.assertEqual(sum(found), counted(family, n, m))
        for n, m in ((4, 4), (5, 3), (8, 0), (2, 6)):
            for family in ("even", "pairs", "lonepairs", "loose"):
                due = [0] * (min(n, m) + 1)
                for diagram in family_diagrams(family, n, m):
                    due[through_by_hand(diagram)] += 1
                self.assertEqual(by_through(family, n, m), due)
        self.assertEqual(by_through("threads", 6, 6), [0, 0, 0, 0, 0, 0, 720])
        self.assertEqual(by_through("threads", 5, 6), [0] * 6)
        self.assertEqual(by_through("pairs", 6, 6)[::2], [225, 4050, 5400, 720])
        self.assertEqual(by_through("pairs", 6, 6)[1::2], [0, 0, 0])
        self.assertEqual(by_through("parts", 8, 4), by_through("parts", 4, 8))
        # 52 partitions of 5 points each alone; 6 blocks of 6 points are joined in 720 ways.
        self.assertEqual(by_through("parts", 5, 5)[0], 52 * 52)
        self.assertEqual(by_through("parts", 6, 6)[6], 720)

    def test_errors_in_order(self):
        for n, m in ((-1, 0), (0, -1), (9, 0), (0, 9), (7, 6), (8, 5), (HUGE, 0), (-HUGE, HUGE)):
            self.assertRaises(BadNumber, by_through, "parts", n, m)
            self.assertRaises(BadNumber, by_through, "threads", n, m)
            self.assertRaises(NotFamily, by_through, "part", n, m)
        self.assertRaises(NotFamily, by_through, "", 1, 1)
        found = by_through("parts", 1, 1)
        found.clear()
        self.assertEqual(by_through("parts", 1, 1), [1, 1])


class LedTest(unittest.TestCase):

    def check(self, family, one, other):
        found = led(family, one, other)
        if through_by_hand(one) > through_by_hand(other):
            self.assertIs(found, None)
            return
        u, loops, v = found
        n = one[0]
        self.assertEqual((u[:2], v[:2]), ((n, n), (n, n)))
        self.assertTrue(is_diagram(u) and is_diagram(v))
        self.assertTrue(family_test(family, n, u[2]) and family_test(family, n, v[2]))
        first, above = put_by_hand(u, other)
        second, made = put_by_hand(above, v)
        self.assertEqual((first + second, made), (loops, one))
        self.assertIsInstance(found, tuple)

    def test_all_pairs(self):
        for family in LEADING:
            for n in range(4):
                diagrams = family_diagrams(family, n, n)
                if len(diagrams) > 40:
                    diagrams = random.Random(203).sample(diagrams, 40)
                for one, other in itertools.product(diagrams, repeat=2):
                    self.check(family, one, other)

    def test_many_strands(self):
        source = random.Random(204)
        for n in (4, 5, 6):
            for _ in range(40):
                self.check("parts", any_diagram(source, n, n), any_diagram(source, n, n))
        for family, n in (("pairs", 4), ("threads", 5), ("loose", 4), ("lonepairs", 3)):
            for _ in range(60):
                one, other = source.sample(listed(family, n, n), 2)
                self.check(family, one, other)
        singles = (6, 6, tuple((k,) for k in range(12)))
        self.check("lonepairs", singles, unit(6))
        self.check("loose", singles, (6, 6, tuple((k, 11 - k) for k in range(6))))
        self.assertIs(led("loose", unit(6), singles), None)
        self.check("pairs", (6, 6, tuple((k, k + 1) for k in range(0, 12, 2))), unit(6))

    def test_none_exactly_where_too_many_go_through(self):
        for family in LEADING:
            diagrams = family_diagrams(family, 2, 2)
            for one, other in itertools.product(diagrams, repeat=2):
                made = any(
                    put(put(u, other)[1], v)[1] == one for u in diagrams for v in diagrams
                )
                self.assertIs(led(family, one, other) is not None, made)

    def test_no_strands(self):
        for family in LEADING:
            self.assertEqual(led(family, (0, 0, ()), (0, 0, ())), ((0, 0, ()), 0, (0, 0, ())))

    def test_errors_in_order(self):
        for family in ("even", "thread", ""):
            self.assertRaises(NotFamily, led, family, WRONG, WRONG)
            self.assertRaises(NotFamily, led, family, unit(2), unit(2))
        self.assertRaises(NotDiagram, led, "parts", WRONG, unit(2))
        self.assertRaises(NotDiagram, led, "parts", (1, 0, ((0,),)), WRONG)
        self.assertRaises(NotDiagram, led, "threads", hook(2, 0), WRONG)
        for family, one, other in (
            ("threads", hook(2, 0), swap(2, 0)), ("threads", swap(2, 0), cut(2, 0)),
            ("pairs", unit(1), cut(1, 0)), ("loose", hook(2, 0), unit(2)),
            ("lonepairs", unit(2), bridge(2, 0)), ("parts", unit(1), unit(2)),
            ("parts", unit(2), unit(1)), ("parts", (2, 1, ((0, 1, 2),)), (2, 1, ((0, 1, 2),))),
            ("parts", (1, 2, ((0, 1, 2),)), unit(1)), ("parts", unit(2), (2, 0, ((0, 1),))),
            ("parts", unit(2), (0, 2, ((0, 1),))),
        ):
            self.assertRaises(BadNumber, led, family, one, other)


class TurnedTest(unittest.TestCase):

    def test_above_itself_turned_over_above_itself(self):
        # [204]
        source = random.Random(205)
        found = some_diagrams(source, ((4, 4), (6, 6), (3, 5), (0, 6), (6, 0), (6, 2)))
        for n, m in sizes_up_to(5):
            found += family_diagrams("parts", n, m)
        for diagram in found:
            first, above = put(diagram, over(diagram))
            second, made = put(above, diagram)
            self.assertEqual(made, diagram)
            self.assertEqual(first + second, len(diagram[2]) - through(diagram))
