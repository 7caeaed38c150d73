"""Points [40] to [45] and the example [48]: diagrams put together."""

import itertools
import random
import unittest

from tests.helpers import (
    Unchanged, all_partitions, any_diagram, closing_by_hand, diagram_of_row, put_by_hand,
    sizes_up_to,
)
from threadworth.basics import cut, hook, unit
from threadworth.diagrams import FAMILIES, is_in, listed
from threadworth.errors import BadNumber, NotDiagram, TooLarge
from threadworth.putting import beside, closed_end, closing, lowered, moved, over, put, raised

EMPTY = (0, 0, ())
WRONG = (1, 1, ((1,), (0,)))
CLOSED = ("lonepairs", "pairs", "even", "parts")


def parts(n, m):
    return [diagram_of_row(n, m, row) for row in all_partitions(n + m)]


def few(family, n, m, most=6):
    """Some diagrams of a family, spread over its list."""
    found = listed(family, n, m)
    return found[::len(found) // most + 1]


def singles(n, m):
    return (n, m, tuple((k,) for k in range(n + m)))


class PutTest(unittest.TestCase):

    def test_all_small_ones(self):
        for n, m, q in itertools.product(range(4), repeat=3):
            if n + m + q <= 6:
                for one, other in itertools.product(parts(n, m), parts(m, q)):
                    self.assertEqual(put(one, other), put_by_hand(one, other))

    def test_larger_ones(self):
        source = random.Random(40)
        for n, m, q in itertools.product(range(9), repeat=3):
            if n + m <= 12 and m + q <= 12 and n + q <= 12:
                one, other = any_diagram(source, n, m), any_diagram(source, m, q)
                self.assertEqual(put(one, other), put_by_hand(one, other))

    def test_example(self):
        self.assertEqual(put(hook(2, 0), hook(2, 0)), (1, hook(2, 0)))
        self.assertEqual(put(cut(1, 0), cut(1, 0)), (1, cut(1, 0)))
        self.assertEqual(closing(hook(2, 0)), 1)
        self.assertEqual(closing(cut(1, 0)), 1)

    def test_three_put_together_in_either_way(self):
        for family in FAMILIES:
            for n, m, q, r in itertools.product(range(4), repeat=4):
                rows = few(family, n, m, 3), few(family, m, q, 3), few(family, q, r, 3)
                for a, b, c in itertools.product(*rows):
                    first, ab = put(a, b)
                    second, left = put(ab, c)
                    third, bc = put(b, c)
                    fourth, right = put(a, bc)
                    self.assertEqual((first + second, left), (third + fourth, right))
                    self.assertIs(is_in(family, left), True)
                    self.assertIs(is_in(family, ab), True)

    def test_the_unit_changes_nothing(self):
        for n, m in sizes_up_to(5):
            for diagram in parts(n, m):
                self.assertEqual(put(unit(n), diagram), (0, diagram))
                self.assertEqual(put(diagram, unit(m)), (0, diagram))

    def test_loops_alone(self):
        for m in range(9):
            whole = (0, m, (tuple(range(m)),) if m else ())
            self.assertEqual(put(singles(0, m), singles(m, 0)), (m, EMPTY))
            self.assertEqual(put(whole, over(whole)), (1 if m else 0, EMPTY))
            self.assertEqual(put(whole, singles(m, 0)), (1 if m else 0, EMPTY))

    def test_points_that_do_not_fit(self):
        self.assertRaises(BadNumber, put, unit(1), unit(2))
        self.assertRaises(BadNumber, put, EMPTY, unit(1))
        self.assertRaises(BadNumber, put, singles(0, 2), singles(0, 2))

    def test_results_of_12_points_and_of_more(self):
        self.assertEqual(put(singles(8, 1), singles(1, 4)), (1, singles(8, 4)))
        self.assertEqual(put(singles(6, 6), singles(6, 6)), (6, singles(6, 6)))
        self.assertRaises(TooLarge, put, singles(8, 1), singles(1, 5))
        self.assertRaises(TooLarge, put, singles(7, 0), singles(0, 6))
        self.assertRaises(TooLarge, put, singles(8, 4), singles(4, 8))

    def test_order_of_errors(self):
        self.assertRaises(NotDiagram, put, WRONG, unit(2))
        self.assertRaises(NotDiagram, put, unit(2), WRONG)
        # These neither fit, nor would their result be small enough.
        self.assertRaises(BadNumber, put, singles(8, 0), singles(1, 8))


class BesideTest(unittest.TestCase):

    def test_points_of_both(self):
        for n, m in sizes_up_to(3):
            for k, q in sizes_up_to(3):
                for one, other in itertools.product(parts(n, m), parts(k, q)):
                    def place_of_one(point):
                        return point if point < n else point + k

                    def place_of_other(point):
                        return n + point if point < k else n + m + point
                    blocks = [tuple(map(place_of_one, block)) for block in one[2]]
                    blocks += [tuple(map(place_of_other, block)) for block in other[2]]
                    due = (n + k, m + q, tuple(sorted(blocks)))
                    self.assertEqual(beside(one, other), due)

    def test_units_beside_one_another(self):
        for n in range(7):
            for k in range(7 - n):
                self.assertEqual(beside(unit(n), unit(k)), unit(n + k))
        self.assertEqual(beside(hook(2, 0), unit(1)), hook(3, 0))
        self.assertEqual(beside(unit(1), hook(2, 0)), hook(3, 1))

    def test_families(self):
        for family in FAMILIES:
            for one, other in itertools.product(few(family, 2, 2), few(family, 1, 1)):
                self.assertIs(is_in(family, beside(one, other)), True)

    def test_bounds(self):
        self.assertEqual(beside(singles(5, 1), singles(3, 3)), singles(8, 4))
        self.assertEqual(beside(singles(0, 8), singles(4, 0)), singles(4, 8))
        self.assertEqual(beside(unit(6), EMPTY), unit(6))
        self.assertEqual(beside(EMPTY, EMPTY), EMPTY)
        self.assertRaises(TooLarge, beside, singles(5, 0), singles(4, 0))
        self.assertRaises(TooLarge, beside, singles(0, 5), singles(0, 4))
        self.assertRaises(TooLarge, beside, singles(5, 3), singles(2, 3))
        self.assertRaises(TooLarge, beside, singles(8, 4), singles(8, 4))

    def test_no_diagram(self):
        self.assertRaises(NotDiagram, beside, WRONG, singles(8, 4))
        self.assertRaises(NotDiagram, beside, singles(8, 4), WRONG)

    def test_two_beside_two_above_one_another(self):
        sizes = [(n, m) for n, m in sizes_up_to(4) if n <= 2 and m <= 2]
        for (n, m), (k, q) in itertools.product(sizes, sizes):
            rows = [few("parts", n, m, 3), few("parts", m, 1, 3),
                    few("parts", k, q, 3), few("parts", q, 1, 3)]
            for a, c, b, d in itertools.product(*rows):
                loops, made = put(beside(a, b), beside(c, d))
                left, first = put(a, c)
                right, second = put(b, d)
                self.assertEqual((loops, made), (left + right, beside(first, second)))


class OverTest(unittest.TestCase):

    def test_over(self):
        self.assertEqual(over((3, 1, ((0, 3), (1, 2)))), (1, 3, ((0, 1), (2, 3))))
        for n, m in sizes_up_to(5):
            for diagram in parts(n, m):
                turned = [
                    tuple(sorted(p + m if p < n else p - n for p in block))
                    for block in diagram[2]
                ]
                self.assertEqual(over(diagram), (m, n, tuple(sorted(turned))))
                self.assertEqual(over(over(diagram)), diagram)

    def test_one_above_the_other_turned_over(self):
        for n, m, q in itertools.product(range(4), repeat=3):
            for a, b in itertools.product(few("parts", n, m), few("parts", m, q)):
                loops, made = put(a, b)
                self.assertEqual(put(over(b), over(a)), (loops, over(made)))

    def test_families(self):
        for family in FAMILIES:
            for n, m in sizes_up_to(5):
                for diagram in listed(family, n, m):
                    self.assertIs(is_in(family, over(diagram)), True)

    def test_no_diagram(self):
        self.assertRaises(NotDiagram, over, WRONG)


class MovedTest(unittest.TestCase):

    def test_points_go_where_the_arrangements_tell(self):
        for n, m in sizes_up_to(4):
            for diagram in parts(n, m):
                for above in itertools.permutations(range(n)):
                    for below in itertools.permutations(range(m)):
                        blocks = [
                            tuple(sorted(above[p] if p < n else n + below[p - n] for p in block))
                            for block in diagram[2]
                        ]
                        due = (n, m, tuple(sorted(blocks)))
                        self.assertEqual(moved(diagram, list(above), list(below)), due)

    def test_direction(self):
        # The point at 0 goes to 2, that at 1 to 0, that at 2 to 1.
        self.assertEqual(moved((3, 1, ((0, 3), (1, 2))), [2, 0, 1], [0]), (3, 1, ((0, 1), (2, 3))))

    def test_families(self):
        for family in FAMILIES:
            for diagram in listed(family, 3, 3):
                self.assertIs(is_in(family, moved(diagram, [1, 2, 0], [0, 2, 1])), True)

    def test_no_arrangements(self):
        diagram = (2, 1, ((0, 2), (1,)))
        for above, below in (
            ([], [0]), ([0], [0]), ([0, 0], [0]), ([1, 2], [0]), ([0, 1, 2], [0]), ([-1, 0], [0]),
            ([0, 1], []), ([0, 1], [1]), ([0, 1], [0, 1]), ([1, 1], [0]), ([0, 10 ** 40], [0]),
        ):
            self.assertRaises(BadNumber, moved, diagram, above, below)
        self.assertRaises(NotDiagram, moved, WRONG, [5], [5])
        self.assertEqual(moved(EMPTY, [], []), EMPTY)

    def test_arguments_stay(self):
        above, below = [1, 0], [0]
        with Unchanged(self, above, below):
            moved((2, 1, ((0, 2), (1,))), above, below)


class LoweredTest(unittest.TestCase):

    def test_points(self):
        self.assertEqual(lowered((2, 2, ((0, 1), (2, 3)))), (1, 3, ((0, 3), (1, 2))))
        self.assertEqual(raised((2, 2, ((0, 3), (1, 2)))), (3, 1, ((0, 2), (1, 3))))
        self.assertEqual(lowered((1, 0, ((0,),))), (0, 1, ((0,),)))
        self.assertEqual(lowered((2, 1, ((0, 2), (1,)))), (1, 2, ((0, 1), (2,))))
        self.assertEqual(raised((1, 2, ((0, 1), (2,)))), (2, 1, ((0, 2), (1,))))

    def test_each_undoes_the_other_one(self):
        for n, m in sizes_up_to(6):
            for diagram in parts(n, m):
                if n:
                    self.assertEqual(raised(lowered(diagram)), diagram)
                if m:
                    self.assertEqual(lowered(raised(diagram)), diagram)

    def test_points_keep_their_blocks(self):
        for n, m in sizes_up_to(5):
            for diagram in parts(n, m) if n else []:
                def place(point):
                    return point if point < n - 1 else n + m - 1 if point == n - 1 else point - 1
                blocks = [tuple(sorted(map(place, block))) for block in diagram[2]]
                self.assertEqual(lowered(diagram), (n - 1, m + 1, tuple(sorted(blocks))))

    def test_families(self):
        for family in CLOSED:
            for n, m in sizes_up_to(6):
                for diagram in listed(family, n, m):
                    if n:
                        self.assertIs(is_in(family, lowered(diagram)), True)
                    if m:
                        self.assertIs(is_in(family, raised(diagram)), True)

    def test_errors(self):
        self.assertRaises(BadNumber, lowered, singles(0, 3))
        self.assertRaises(BadNumber, lowered, singles(0, 8))
        self.assertRaises(BadNumber, raised, singles(3, 0))
        self.assertRaises(BadNumber, raised, singles(8, 0))
        self.assertRaises(TooLarge, lowered, singles(1, 8))
        self.assertRaises(TooLarge, raised, singles(8, 1))
        self.assertEqual(lowered(singles(5, 7)), singles(4, 8))
        self.assertEqual(raised(singles(7, 5)), singles(8, 4))
        self.assertRaises(NotDiagram, lowered, WRONG)
        self.assertRaises(NotDiagram, raised, WRONG)


class ClosingTest(unittest.TestCase):

    def test_all_small_ones(self):
        for n in range(4):
            for diagram in parts(n, n):
                self.assertEqual(closing(diagram), closing_by_hand(diagram))

    def test_units(self):
        for n in range(7):
            self.assertEqual(closing(unit(n)), n)
            self.assertEqual(closing(singles(n, n)), n)
        self.assertEqual(closing((6, 6, (tuple(range(12)),))), 1)

    def test_in_both_orders(self):
        for n, m in itertools.product(range(4), repeat=2):
            for a, b in itertools.product(few("parts", n, m, 20), few("parts", m, n, 20)):
                first, ab = put(a, b)
                second, ba = put(b, a)
                self.assertEqual(first + closing(ab), second + closing(ba))

    def test_errors(self):
        self.assertRaises(BadNumber, closing, singles(1, 2))
        self.assertRaises(BadNumber, closing, singles(1, 0))
        self.assertRaises(NotDiagram, closing, WRONG)
        self.assertRaises(NotDiagram, closing, (1, 2, ()))


class ClosedEndTest(unittest.TestCase):

    def test_ends(self):
        self.assertEqual(closed_end(unit(3), 1), (1, unit(2)))
        self.assertEqual(closed_end(hook(2, 0), 1), (0, unit(1)))
        self.assertEqual(closed_end(hook(2, 0), 2), (1, EMPTY))
        self.assertEqual(closed_end(cut(2, 1), 1), (1, unit(1)))
        # The places are counted from the right: 2 above is joined to 1 below.
        self.assertEqual(closed_end((3, 2, ((0, 4), (1, 2), (3,))), 1), (0, (2, 1, ((0, 1), (2,)))))

    def test_ends_of_0_points(self):
        for n, m in sizes_up_to(5):
            for diagram in parts(n, m):
                self.assertEqual(closed_end(diagram, 0), (0, diagram))

    def test_one_after_the_other_or_all_at_once(self):
        for n, m in sizes_up_to(6):
            for diagram in few("parts", n, m, 20):
                loops, made = 0, diagram
                for count in range(min(n, m) + 1):
                    self.assertEqual(closed_end(diagram, count), (loops, made))
                    if count < min(n, m):
                        more, made = closed_end(made, 1)
                        loops += more

    def test_all_points(self):
        for n in range(4):
            for diagram in few("parts", n, n, 60):
                self.assertEqual(closed_end(diagram, n), (closing_by_hand(diagram), EMPTY))
        loops, made = closed_end(singles(8, 4), 4)
        self.assertEqual((loops, made), (4, singles(4, 0)))

    def test_families(self):
        for family in FAMILIES:
            for n, m in sizes_up_to(6):
                for diagram in few(family, n, m, 30):
                    for count in range(min(n, m) + 1):
                        self.assertIs(is_in(family, closed_end(diagram, count)[1]), True)

    def test_errors(self):
        for count in (-1, 2, 3, 10 ** 40):
            self.assertRaises(BadNumber, closed_end, singles(3, 1), count)
            self.assertRaises(BadNumber, closed_end, singles(1, 3), count)
        self.assertRaises(BadNumber, closed_end, EMPTY, 1)
        self.assertRaises(NotDiagram, closed_end, WRONG, -1)
