"""Points [20] to [23] and the example [26]: diagrams and families."""

import itertools
import unittest

from tests.helpers import (
    Unchanged, all_partitions, diagram_of_row, family_diagrams, family_test, sizes_up_to,
)
from threadworth.diagrams import (
    FAMILIES, check_diagram, check_family, counted, from_labels, index_of, is_before,
    is_diagram, is_in, labels, listed,
)
from threadworth.errors import BadNumber, NotDiagram, NotFamily, TooLarge

HOOK = (2, 2, ((0, 1), (2, 3)))
SWAP = (2, 2, ((0, 3), (1, 2)))
UNIT = (2, 2, ((0, 2), (1, 3)))
EMPTY = (0, 0, ())
WRONG = (
    (-1, 1, ()), (1, -1, ()), (-1, -1, ()), (9, 0, ((0, 1, 2, 3, 4, 5, 6, 7, 8),)),
    (0, 9, ((0, 1, 2, 3, 4, 5, 6, 7, 8),)), (7, 6, (tuple(range(13)),)),
    (8, 5, (tuple(range(13)),)), (8, 8, (tuple(range(16)),)), (10 ** 50, 0, ()),
    (0, 10 ** 50, ()), (10 ** 50, -10 ** 50, ()),
    (1, 1, ()), (1, 1, ((0,),)), (1, 1, ((1,),)), (1, 1, ((0, 1, 2),)), (1, 1, ((0, 2),)),
    (1, 1, ((0, 1), (1,))), (1, 1, ((0, 0, 1),)), (1, 1, ((0,), (0,))), (1, 1, ((0,), (0, 1))),
    (1, 1, ((-1,), (0,))), (1, 1, ((0, -1),)), (1, 1, ((0, 1), ())), (1, 1, ((), (0, 1))),
    (0, 0, ((),)), (0, 0, ((0,),)), (1, 1, ((1, 0),)), (1, 1, ((1,), (0,))),
    (2, 2, ((1, 2), (0, 3))), (2, 2, ((0, 3), (2, 1))), (2, 2, ((0, 2, 1, 3),)),
    (2, 2, ((0, 1), (2, 3), (4,))), (2, 1, ((0, 1), (2, 3))),
)


class FormTest(unittest.TestCase):

    def test_diagrams(self):
        for diagram in (
            HOOK, SWAP, UNIT, EMPTY, (1, 0, ((0,),)), (0, 1, ((0,),)), (2, 0, ((0, 1),)),
            (8, 0, (tuple(range(8)),)), (0, 8, (tuple(range(8)),)), (6, 6, (tuple(range(12)),)),
            (8, 4, tuple((k,) for k in range(12))), (4, 8, (tuple(range(12)),)),
            (3, 2, ((0, 4), (1, 2), (3,))),
        ):
            self.assertIs(is_diagram(diagram), True, diagram)
            self.assertIsNone(check_diagram(diagram))

    def test_other_tuples(self):
        for diagram in WRONG:
            self.assertIs(is_diagram(diagram), False, diagram)
            self.assertRaises(NotDiagram, check_diagram, diagram)

    def test_numbers_of_points(self):
        for n, m in itertools.product(range(10), range(10)):
            blocks = tuple((k,) for k in range(n + m))
            self.assertIs(is_diagram((n, m, blocks)), n <= 8 and m <= 8 and n + m <= 12)

    def test_exactly_the_partitions_in_order_are_diagrams(self):
        blocks = [
            block for size in range(4) for block in itertools.product(range(3), repeat=size)
        ]
        found = [
            (2, 1, rows) for count in range(4) for rows in itertools.product(blocks, repeat=count)
            if is_diagram((2, 1, rows))
        ]
        due = [diagram_of_row(2, 1, row) for row in all_partitions(3)]
        self.assertEqual(sorted(found), sorted(due))

    def test_functions_raise_not_diagram(self):
        for wrong in WRONG:
            self.assertRaises(NotDiagram, labels, wrong)
            self.assertRaises(NotDiagram, is_before, wrong, EMPTY)
            self.assertRaises(NotDiagram, is_before, EMPTY, wrong)
            for family in FAMILIES:
                self.assertRaises(NotDiagram, is_in, family, wrong)
                self.assertRaises(NotDiagram, index_of, family, wrong)


class LabelsTest(unittest.TestCase):

    def test_labels(self):
        self.assertEqual(labels(HOOK), [0, 0, 1, 1])
        self.assertEqual(labels(SWAP), [0, 1, 1, 0])
        self.assertEqual(labels(EMPTY), [])
        self.assertEqual(labels((3, 2, ((0, 4), (1, 2), (3,)))), [0, 1, 1, 2, 0])

    def test_labels_of_all_small_diagrams(self):
        for n, m in sizes_up_to(5):
            for row in all_partitions(n + m):
                diagram = diagram_of_row(n, m, row)
                self.assertEqual(labels(diagram), list(row))
                self.assertEqual(from_labels(n, m, list(row)), diagram)

    def test_marks_may_be_any_integers(self):
        self.assertEqual(from_labels(2, 2, [9, -4, -4, 9]), SWAP)
        self.assertEqual(from_labels(2, 2, [10 ** 40, 10 ** 40, 0, 0]), HOOK)
        self.assertEqual(from_labels(1, 2, [3, 2, 1]), (1, 2, ((0,), (1,), (2,))))
        self.assertEqual(from_labels(0, 0, []), EMPTY)
        self.assertEqual(from_labels(8, 4, [5] * 12), (8, 4, (tuple(range(12)),)))

    def test_wrong_numbers(self):
        for n, m, marks in (
            (-1, 1, []), (1, -1, []), (9, 0, [0] * 9), (0, 9, [0] * 9), (7, 6, [0] * 13),
            (2, 2, [0] * 3), (2, 2, [0] * 5), (0, 0, [0]), (1, 0, []), (10 ** 40, 0, []),
        ):
            self.assertRaises(BadNumber, from_labels, n, m, marks)

    def test_arguments_stay_and_results_are_new(self):
        marks = [4, 4, 3, 4]
        with Unchanged(self, marks):
            from_labels(2, 2, marks)
        found = labels(HOOK)
        found.append(7)
        self.assertEqual(labels(HOOK), [0, 0, 1, 1])


class OrderTest(unittest.TestCase):

    def test_order_by_points_then_by_labels(self):
        made = [
            diagram_of_row(n, m, row) for n, m in sizes_up_to(4) for row in all_partitions(n + m)
        ]
        self.assertEqual(made[0], EMPTY)
        for i, one in enumerate(made):
            for j, other in enumerate(made):
                self.assertIs(is_before(one, other), i < j)

    def test_less_points_above_come_first(self):
        self.assertIs(is_before((0, 8, (tuple(range(8)),)), (1, 0, ((0,),))), True)
        self.assertIs(is_before((1, 0, ((0,),)), (0, 8, (tuple(range(8)),))), False)
        self.assertIs(is_before((1, 1, ((0,), (1,))), (1, 2, ((0, 1, 2),))), True)


class FamilyTest(unittest.TestCase):

    def test_names(self):
        self.assertEqual(FAMILIES, ("threads", "loose", "pairs", "lonepairs", "even", "parts"))
        for family in FAMILIES:
            self.assertIsNone(check_family(family))

    def test_other_strings(self):
        for family in ("", "thread", "Threads", "threads ", "part", "all"):
            self.assertRaises(NotFamily, check_family, family)
            self.assertRaises(NotFamily, is_in, family, HOOK)
            self.assertRaises(NotFamily, counted, family, 1, 1)
            self.assertRaises(NotFamily, listed, family, 1, 1)
            self.assertRaises(NotFamily, index_of, family, HOOK)

    def test_not_family_comes_ahead_of_other_errors(self):
        self.assertRaises(NotFamily, is_in, "x", WRONG[0])
        self.assertRaises(NotFamily, index_of, "x", WRONG[0])
        self.assertRaises(NotFamily, counted, "x", 9, 9)
        self.assertRaises(NotFamily, listed, "x", 9, 9)

    def test_is_in(self):
        for n, m in sizes_up_to(6):
            for row in all_partitions(n + m):
                diagram = diagram_of_row(n, m, row)
                for family in FAMILIES:
                    self.assertIs(is_in(family, diagram), family_test(family, n, diagram[2]))

    def test_is_in_at_the_edges(self):
        for family in FAMILIES:
            self.assertIs(is_in(family, EMPTY), True)
        # Two points on one side are a pair, but no thread.
        self.assertIs(is_in("threads", HOOK), False)
        self.assertIs(is_in("loose", HOOK), False)
        self.assertIs(is_in("pairs", HOOK), True)
        self.assertIs(is_in("loose", (1, 1, ((0,), (1,)))), True)
        self.assertIs(is_in("even", (2, 2, ((0, 1, 2, 3),))), True)
        self.assertIs(is_in("even", (2, 2, ((0,), (1, 2, 3)))), False)


class CountedTest(unittest.TestCase):

    def test_example(self):
        due = {"parts": 15, "even": 4, "lonepairs": 10, "pairs": 3, "loose": 7, "threads": 2}
        for family, many in due.items():
            self.assertEqual(counted(family, 2, 2), many)

    def test_counts_of_all_small_diagrams(self):
        for n, m in sizes_up_to(7):
            for family in FAMILIES:
                self.assertEqual(counted(family, n, m), len(family_diagrams(family, n, m)))

    def test_counts_of_12_points(self):
        self.assertEqual(counted("threads", 6, 6), 720)
        self.assertEqual(counted("threads", 7, 5), 0)
        self.assertEqual(counted("loose", 6, 6), 13327)
        self.assertEqual(counted("loose", 8, 4), 3393)
        self.assertEqual(counted("pairs", 8, 4), 10395)
        self.assertEqual(counted("lonepairs", 5, 7), 140152)
        self.assertEqual(counted("even", 4, 8), 150349)
        self.assertEqual(counted("parts", 6, 6), 4213597)
        self.assertEqual(counted("parts", 5, 6), 678570)
        self.assertEqual(counted("pairs", 5, 6), 0)
        self.assertEqual(counted("even", 5, 6), 0)

    def test_without_points(self):
        for family in FAMILIES:
            self.assertEqual(counted(family, 0, 0), 1)
            self.assertEqual(listed(family, 0, 0), [EMPTY])
        self.assertEqual(counted("threads", 0, 1), 0)
        self.assertEqual(counted("loose", 0, 8), 1)

    def test_wrong_numbers(self):
        for n, m in ((-1, 0), (0, -1), (9, 0), (0, 9), (7, 6), (8, 5), (8, 8), (10 ** 40, 0)):
            for family in FAMILIES:
                self.assertRaises(BadNumber, counted, family, n, m)
                self.assertRaises(BadNumber, listed, family, n, m)


class ListedTest(unittest.TestCase):

    def test_all_small_lists(self):
        for n, m in sizes_up_to(6):
            for family in FAMILIES:
                self.assertEqual(listed(family, n, m), family_diagrams(family, n, m))

    def test_lists_of_at_most_250_and_of_more(self):
        # No family has exactly 250 diagrams of any size: the numbers that are
        # nearest to the bound are 232 and 358.
        for family in FAMILIES:
            for n, m in sizes_up_to(12):
                many = counted(family, n, m)
                self.assertNotIn(many, range(233, 358))
                if many > 250:
                    self.assertRaises(TooLarge, listed, family, n, m)
                else:
                    found = listed(family, n, m)
                    self.assertEqual(len(found), many)
                    self.assertTrue(all(is_in(family, diagram) for diagram in found))
                    rows = [labels(diagram) for diagram in found]
                    self.assertEqual(rows, sorted(rows))
                    self.assertEqual(len({tuple(row) for row in rows}), many)

    def test_index_of(self):
        for n, m in sizes_up_to(5):
            for family in FAMILIES:
                for k, diagram in enumerate(listed(family, n, m)):
                    self.assertEqual(index_of(family, diagram), k)
        self.assertEqual(index_of("pairs", HOOK), 0)
        self.assertEqual(index_of("pairs", UNIT), 1)
        self.assertEqual(index_of("pairs", SWAP), 2)
        # The diagram whose blocks are all single points is the last one of 232.
        singles = (4, 3, tuple((k,) for k in range(7)))
        self.assertEqual(index_of("lonepairs", singles), 231)
        self.assertRaises(TooLarge, index_of, "lonepairs", (4, 4, tuple((k,) for k in range(8))))

    def test_index_of_other_diagrams(self):
        self.assertRaises(BadNumber, index_of, "threads", HOOK)
        self.assertRaises(BadNumber, index_of, "even", (1, 1, ((0,), (1,))))
        # Not in the family comes ahead of too many diagrams.
        large = (6, 6, (tuple(range(12)),))
        self.assertRaises(BadNumber, index_of, "lonepairs", large)
        self.assertRaises(TooLarge, index_of, "parts", large)
        self.assertRaises(TooLarge, index_of, "even", large)
        six = (6, 6, tuple((k, k + 6) for k in range(6)))
        self.assertRaises(TooLarge, index_of, "threads", six)

    def test_lists_are_not_shared(self):
        found = listed("parts", 1, 1)
        found.append(0)
        self.assertEqual(len(listed("parts", 1, 1)), 2)
