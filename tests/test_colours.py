"""Points [160] to [168]: tables of colours."""

import itertools
import random
import unittest
from fractions import Fraction

from tests.helpers import (
    Unchanged, any_number, any_terms, as_number, as_value, diagram_of_row, family_diagrams,
    reduced_rows,
)
from threadworth.alike import are_alike, is_lost, lost_basis
from threadworth.basics import cut, hook, unit
from threadworth.colours import (
    colour_table, exact_table, few_blocks, is_blind, is_without_colours, matched, seen, sum_of,
    sum_table,
)
from threadworth.diagrams import FAMILIES, counted, listed
from threadworth.errors import (
    BadNumber, NoAnswer, NotDiagram, NotFamily, NotMatrix, NotNumber, TooLarge,
)
from threadworth.putting import beside
from threadworth.sums import Sum, text_of_sum, unit_sum, zero_sum

WRONG = (1, 1, ((1,), (0,)))
SIZES = ((0, 0), (1, 0), (0, 1), (1, 1), (2, 1), (0, 3), (2, 2), (3, 1), (1, 4))
BAD_D = (0, 5, -1, 10 ** 40)
NULL = (0, 1)
ONE = (1, 1)


def fits(d, points):
    return d ** points <= 1024


def colourings(d, points):
    return list(itertools.product(range(d), repeat=points))


def table_by_hand(d, diagram, exact):
    """The table of a diagram by the words of [161]."""
    n, m, blocks = diagram
    table = []
    for above in colourings(d, n):
        row = []
        for below in colourings(d, m):
            colours = above + below
            sets = [{colours[point] for point in block} for block in blocks]
            right = all(len(block) == 1 for block in sets)
            if exact:
                right = right and len({min(block) for block in sets}) == len(blocks)
            row.append(1 if right else 0)
        table.append(row)
    return table


def sum_by_hand(one):
    """The table of a sum, of fractions."""
    d = one.world[1]
    table = [[Fraction(0)] * d ** one.m for _ in range(d ** one.n)]
    for diagram, x in one.terms():
        for i, row in enumerate(table_by_hand(d, diagram, False)):
            for j, entry in enumerate(row):
                table[i][j] += entry * as_value(one.world, x)
    return table


def numbers_of(table):
    return [[as_number((0, 1), entry) for entry in row] for row in table]


def values_of(table):
    return [[Fraction(*entry) for entry in row] for row in table]


def any_sum(source, world, n, m, many=4, family="parts"):
    diagrams = listed(family, n, m)
    return Sum(world, n, m, any_terms(source, world, diagrams, many))


def parts(n, m, most):
    return [diagram for diagram in listed("parts", n, m) if len(diagram[2]) <= most]


def renamed(d, n, m, table, names):
    """The table whose entry is that for the colours that become these."""
    above, below = colourings(d, n), colourings(d, m)
    return [
        [
            table[above.index(tuple(names[k] for k in row))]
            [below.index(tuple(names[k] for k in column))] for column in below
        ]
        for row in above
    ]


def is_blind_by_hand(d, n, m, table):
    return all(
        renamed(d, n, m, table, names) == table for names in itertools.permutations(range(d))
    )


def any_blind(source, d, n, m):
    """A drawn blind table: an entry for each pattern of equal colours."""
    told = {}
    table = []
    for above in colourings(d, n):
        row = []
        for below in colourings(d, m):
            colours = above + below
            pattern = tuple(colours.index(colour) for colour in colours)
            if pattern not in told:
                told[pattern] = any_number(source, (0, d))
            row.append(told[pattern])
        table.append(row)
    return table


class TableTest(unittest.TestCase):

    def test_tables_and_exact_tables(self):
        for d in range(1, 5):
            for n, m in SIZES + ((3, 3),):
                if fits(d, n + m):
                    for diagram in family_diagrams("parts", n, m)[::1 if n + m < 5 else 23]:
                        found = colour_table(d, diagram)
                        self.assertEqual(found, table_by_hand(d, diagram, False))
                        found = exact_table(d, diagram)
                        self.assertEqual(found, table_by_hand(d, diagram, True))

    def test_sizes(self):
        for d, n, m in ((1, 8, 4), (1, 6, 6), (2, 8, 2), (2, 5, 5), (2, 2, 8), (3, 6, 0),
                        (3, 0, 6), (4, 5, 0), (4, 0, 5), (4, 2, 3)):
            diagram = diagram_of_row(n, m, tuple(range(n + m)))
            for call in (colour_table, exact_table):
                table = call(d, diagram)
                self.assertEqual([len(row) for row in table], [d ** m] * d ** n)
            self.assertEqual(sum(map(sum, colour_table(d, diagram))), d ** (n + m))

    def test_1024_entries_and_more(self):
        for d, n, m in ((2, 8, 3), (2, 6, 5), (2, 4, 8), (3, 7, 0), (3, 3, 4), (4, 6, 0), (4, 3, 3)):
            diagram = diagram_of_row(n, m, (0,) * (n + m))
            self.assertRaises(TooLarge, colour_table, d, diagram)
            self.assertRaises(TooLarge, exact_table, d, diagram)

    def test_errors_in_order(self):
        for call in (colour_table, exact_table):
            for d in BAD_D:
                self.assertRaises(BadNumber, call, d, WRONG)
                self.assertRaises(BadNumber, call, d, unit(1))
            self.assertRaises(NotDiagram, call, 4, WRONG)
            self.assertRaises(NotDiagram, call, 4, (9, 9, ()))

    def test_no_list_is_shared(self):
        for call in (colour_table, exact_table):
            table = call(2, cut(2, 0))
            table[0][0] = "x"
            self.assertNotIn("x", table[1])
            self.assertNotIn("x", call(2, cut(2, 0))[0])
        table = sum_table(zero_sum((0, 2), 2, 2))
        table[0][0] = "x"
        self.assertEqual(table[1], [NULL] * 4)

    def test_example(self):
        due = [[1, 0, 0, 1], [0, 0, 0, 0], [0, 0, 0, 0], [1, 0, 0, 1]]
        self.assertEqual(colour_table(2, hook(2, 0)), due)
        self.assertEqual(colour_table(1, unit(1)), [[1]])
        self.assertEqual(colour_table(1, cut(1, 0)), [[1]])
        self.assertEqual(exact_table(1, cut(1, 0)), [[0]])

    def test_a_table_by_exact_tables(self):
        for d, n, m in ((1, 2, 2), (2, 2, 2), (3, 1, 3), (4, 2, 1), (3, 2, 2)):
            for diagram in listed("parts", n, m):
                total = [[0] * d ** m for _ in range(d ** n)]
                for coarse in listed("parts", n, m):
                    if all(any(set(b) <= set(c) for c in coarse[2]) for b in diagram[2]):
                        for i, row in enumerate(exact_table(d, coarse)):
                            total[i] = [x + y for x, y in zip(total[i], row)]
                self.assertEqual(colour_table(d, diagram), total)

    def test_each_entry_is_1_in_one_exact_table(self):
        for d, n, m in ((1, 2, 2), (2, 2, 2), (3, 1, 3), (4, 2, 1), (2, 0, 5)):
            total = [[0] * d ** m for _ in range(d ** n)]
            for part in listed("parts", n, m):
                table = exact_table(d, part)
                self.assertIs(any(map(any, table)), len(part[2]) <= d)
                for i, row in enumerate(table):
                    total[i] = [x + y for x, y in zip(total[i], row)]
            self.assertEqual(total, [[1] * d ** m for _ in range(d ** n)])


class SumTableTest(unittest.TestCase):

    def test_tables_of_sums(self):
        source = random.Random(161)
        for d in range(1, 5):
            for n, m in SIZES:
                if fits(d, n + m):
                    one = any_sum(source, (0, d), n, m)
                    before = one.terms()
                    due = sum_by_hand(one)
                    self.assertEqual(sum_table(one), numbers_of(due))
                    self.assertIs(is_without_colours(one), not any(map(any, due)))
                    self.assertEqual(one.terms(), before)

    def test_products_are_products_of_tables(self):
        source = random.Random(162)
        for d in range(1, 5):
            for n, m, q in ((1, 1, 1), (2, 1, 2), (0, 3, 1), (2, 2, 1)):
                one, other = any_sum(source, (0, d), n, m), any_sum(source, (0, d), m, q)
                left, right = values_of(sum_table(one)), values_of(sum_table(other))
                due = [
                    [sum((x * row[j] for x, row in zip(line, right)), Fraction(0))
                     for j in range(d ** q)] for line in left
                ]
                self.assertEqual(sum_table(one * other), numbers_of(due))

    def test_over_beside_and_worth(self):
        source = random.Random(163)
        for d in range(1, 5):
            for n, m, q, r in ((1, 1, 1, 1), (2, 1, 0, 1), (0, 2, 1, 1)):
                one, other = any_sum(source, (0, d), n, m), any_sum(source, (0, d), q, r)
                turned = [list(column) for column in zip(*sum_table(one))]
                self.assertEqual(sum_table(one.over()), turned)
                left, right = values_of(sum_table(one)), values_of(sum_table(other))
                due = [
                    [x * y for x in row for y in line] for row in left for line in right
                ]
                self.assertEqual(sum_table(one.beside(other)), numbers_of(due))
            for n in (0, 1, 2):
                one = any_sum(source, (0, d), n, n)
                table = values_of(sum_table(one))
                due = sum((table[k][k] for k in range(d ** n)), Fraction(0))
                self.assertEqual(one.worth(), as_number((0, d), due))

    def test_matched_and_worth(self):
        source = random.Random(164)
        for d in range(1, 5):
            for n, m in SIZES:
                if fits(d, n + m) and 2 * n <= 8:
                    one, other = any_sum(source, (0, d), n, m), any_sum(source, (0, d), n, m)
                    found = matched(one, other)
                    self.assertEqual(found, (one * other.over()).worth())
                    self.assertEqual(found, matched(other, one))
                    left, right = sum_by_hand(one), sum_by_hand(other)
                    due = sum((
                        x * y for row, line in zip(left, right) for x, y in zip(row, line)
                    ), Fraction(0))
                    self.assertEqual(found, as_number((0, d), due))

    def test_8_points(self):
        one = Sum((0, 2), 8, 0, [(diagram_of_row(8, 0, (0, 1) * 4), (1, 2))])
        self.assertEqual(matched(one, one), (1, 1))
        self.assertEqual(sum_table(one)[0b01010101], [(1, 2)])
        self.assertEqual(sum_table(one)[0b01010111], [NULL])

    def test_lost_exactly_if_without_colours(self):
        source = random.Random(165)
        lost = 0
        for d, family in itertools.product(range(1, 5), FAMILIES):
            for n, m in ((1, 1), (2, 2), (1, 2), (0, 4)):
                sums = lost_basis((0, d), family, n, m)[:3]
                sums += [any_sum(source, (0, d), n, m, 3, family) for _ in range(3)]
                for one in sums:
                    self.assertIs(is_without_colours(one), is_lost(one, family))
                    lost += is_lost(one, family) and bool(one)
        self.assertGreater(lost, 50)

    def test_example_of_lost_sums(self):
        for d, due in ((1, True), (2, False)):
            one = Sum((0, d), 1, 1, [(unit(1), ONE), (cut(1, 0), (-1, 1))])
            self.assertIs(is_without_colours(one), due)

    def test_errors_in_order(self):
        large, larger = zero_sum((0, 3), 7, 0), zero_sum((0, 4), 3, 3)
        for call in (sum_table, is_without_colours, few_blocks):
            for world in ((0, 0), (0, 5), (0, -1), (0, 20), (2, 1), (5, 2), (31, 4)):
                self.assertRaises(BadNumber, call, zero_sum(world, 1, 1))
                self.assertRaises(BadNumber, call, zero_sum(world, 4, 4))
            self.assertRaises(TooLarge, call, large)
            self.assertRaises(TooLarge, call, larger)
        good, bad = unit_sum((0, 3), 1), unit_sum((5, 3), 1)
        self.assertRaises(BadNumber, matched, bad, large)
        self.assertRaises(TooLarge, matched, large, bad)
        self.assertRaises(BadNumber, matched, good, bad)
        self.assertRaises(TooLarge, matched, good, large)
        for other in (unit_sum((0, 2), 1), unit_sum((0, 3), 2), zero_sum((0, 3), 1, 0),
                      zero_sum((0, 3), 0, 1), zero_sum((0, 3), 2, 0)):
            self.assertRaises(BadNumber, matched, good, other)
            self.assertRaises(BadNumber, matched, other, good)
        self.assertEqual(len(sum_table(zero_sum((0, 3), 6, 0))), 729)
        self.assertEqual(len(sum_table(zero_sum((0, 4), 5, 0))), 1024)
        self.assertEqual(len(sum_table(zero_sum((0, 2), 4, 4))), 16)


class BlindTest(unittest.TestCase):

    def test_all_permutations(self):
        source = random.Random(166)
        for d, n, m in ((1, 2, 1), (2, 1, 1), (2, 2, 2), (3, 1, 1), (3, 2, 1), (4, 1, 1), (4, 0, 2),
                        (2, 0, 0), (4, 2, 1)):
            for _ in range(3):
                table = any_blind(source, d, n, m)
                self.assertIs(is_blind_by_hand(d, n, m, table), True)
                with Unchanged(self, table):
                    self.assertIs(is_blind(d, n, m, table), True)
                row = source.randrange(len(table))
                column = source.randrange(len(table[0]))
                x, y = table[row][column]
                table[row][column] = (x + y, y)
                self.assertIs(is_blind(d, n, m, table), is_blind_by_hand(d, n, m, table))

    def test_tables_of_sums_are_blind(self):
        source = random.Random(167)
        for d in range(1, 5):
            for n, m in SIZES:
                if fits(d, n + m):
                    table = sum_table(any_sum(source, (0, d), n, m))
                    self.assertIs(is_blind(d, n, m, table), True)

    def test_a_table_that_is_not_blind(self):
        table = [[ONE], [NULL]]
        self.assertIs(is_blind(2, 1, 0, table), False)
        self.assertRaises(NoAnswer, sum_of, 2, 1, 0, table)
        self.assertIs(is_blind(2, 1, 0, [[ONE], [ONE]]), True)
        self.assertIs(is_blind(2, 0, 1, [[ONE, (2, 1)]]), False)
        self.assertIs(is_blind(1, 1, 0, [[(5, 3)]]), True)

    def test_the_sum_that_has_a_table(self):
        source = random.Random(168)
        for d in range(1, 5):
            for n, m in SIZES + ((3, 3),):
                if fits(d, n + m):
                    table = any_blind(source, d, n, m)
                    with Unchanged(self, table):
                        one = sum_of(d, n, m, table)
                    self.assertEqual((one.world, one.n, one.m), ((0, d), n, m))
                    self.assertEqual(sum_table(one), table)
                    self.assertTrue(all(len(diagram[2]) <= d for diagram, _ in one.terms()))
                    self.assertEqual(few_blocks(one), one)

    def test_few_blocks(self):
        source = random.Random(169)
        for d in range(1, 5):
            for n, m in SIZES:
                if fits(d, n + m):
                    one, other = any_sum(source, (0, d), n, m), any_sum(source, (0, d), n, m)
                    few = few_blocks(one)
                    self.assertTrue(all(len(diagram[2]) <= d for diagram, _ in few.terms()))
                    self.assertIs(are_alike(one, few, "parts"), True)
                    self.assertIs(
                        are_alike(one, other, "parts"), few == few_blocks(other)
                    )
                    for lost in lost_basis((0, d), "parts", n, m)[:3]:
                        self.assertEqual(few_blocks(one + lost), few)

    def test_sums_of_few_blocks_stay(self):
        source = random.Random(170)
        for d, n, m in ((1, 2, 2), (2, 2, 2), (3, 3, 1), (4, 2, 2), (2, 6, 0)):
            one = Sum((0, d), n, m, any_terms(source, (0, d), parts(n, m, d), 6))
            self.assertEqual(few_blocks(one), one)

    def test_example(self):
        three = beside(cut(1, 0), unit(1))
        one = sum_of(2, 2, 2, numbers_of(sum_by_hand(Sum((0, 2), 2, 2, [(three, ONE)]))))
        due = Sum((0, 2), 2, 2, [
            ((2, 2, ((0, 2), (1, 3))), ONE), ((2, 2, ((0, 1, 3), (2,))), ONE),
            ((2, 2, ((0,), (1, 2, 3))), ONE), ((2, 2, ((0, 1, 2, 3),)), (-2, 1)),
        ])
        self.assertEqual(one, due)
        self.assertEqual(few_blocks(Sum((0, 2), 2, 2, [(three, ONE)])), due)
        self.assertEqual(text_of_sum(due), "0 2 2 2 -2 aa|aa 1 aa|ba 1 ab|ab 1 ab|bb")

    def test_errors_in_order(self):
        for call in (is_blind, sum_of):
            for d in BAD_D:
                self.assertRaises(BadNumber, call, d, 1, 1, [])
            for n, m in ((-1, 1), (1, -1), (5, 4), (9, 0), (10 ** 40, 0)):
                self.assertRaises(BadNumber, call, 4, n, m, [])
            for d, n, m in ((3, 7, 0), (3, 4, 4), (4, 6, 0), (4, 3, 3)):
                self.assertRaises(TooLarge, call, d, n, m, [])
            for entries in (
                [], [[]], [[NULL, NULL]], [[NULL], [NULL]], [[NULL, NULL], [NULL]],
                [[NULL] * 2] * 3, [[NULL] * 3] * 2, [[(2, 2)], []], [[NULL] * 4],
            ):
                self.assertRaises(NotMatrix, call, 2, 1, 1, entries)
            for x in ((2, 2), (1, 0), (1, -1)):
                self.assertRaises(NotNumber, call, 2, 1, 1, [[NULL, ONE], [NULL, x]])
            self.assertRaises(NotMatrix, call, 2, 0, 0, [])
        # Not blind, and too many parts besides: the size comes first.
        bumpy = [[ONE]] + [[NULL]] * 127
        self.assertIs(is_blind(2, 7, 0, bumpy), False)
        self.assertRaises(TooLarge, sum_of, 2, 7, 0, bumpy)
        self.assertRaises(NotMatrix, sum_of, 2, 7, 0, bumpy[1:])
        self.assertRaises(NotNumber, sum_of, 2, 7, 0, [[(2, 2)]] * 128)

    def test_250_parts_and_more(self):
        self.assertRaises(TooLarge, sum_of, 1, 7, 0, [[ONE]])
        self.assertRaises(TooLarge, sum_of, 1, 4, 4, [[ONE]])
        self.assertRaises(TooLarge, few_blocks, zero_sum((0, 2), 4, 3))
        self.assertRaises(TooLarge, few_blocks, zero_sum((0, 1), 8, 0))
        self.assertIs(is_blind(1, 4, 4, [[ONE]]), True)
        self.assertIs(is_blind(2, 4, 4, [[ONE] * 16] * 16), True)
        made = sum_of(1, 3, 3, [[(5, 2)]])
        self.assertEqual(made.terms(), [((3, 3, ((0, 1, 2, 3, 4, 5),)), (5, 2))])
        made = sum_of(3, 0, 0, [[(5, 2)]])
        self.assertEqual(made.terms(), [((0, 0, ()), (5, 2))])


class SeenTest(unittest.TestCase):

    def test_parts_with_few_blocks(self):
        for d in range(1, 5):
            for n, m in SIZES:
                self.assertEqual(seen(d, "parts", n, m), len(parts(n, m, d)))

    def test_kept_arrangements(self):
        for d in range(1, 5):
            for n in range(5):
                kept = 0
                for places in itertools.permutations(range(n)):
                    falls = itertools.combinations(range(n), d + 1)
                    kept += not any(
                        all(places[i] > places[j] for i, j in zip(fall, fall[1:]))
                        for fall in falls
                    )
                self.assertEqual(seen(d, "threads", n, n), kept)

    def test_independent_tables(self):
        for d, family in itertools.product(range(1, 5), FAMILIES):
            for n, m in SIZES:
                if fits(d, n + m):
                    rows = [
                        [Fraction(x) for row in table_by_hand(d, diagram, False) for x in row]
                        for diagram in listed(family, n, m)[:60]
                    ]
                    if len(rows) <= 26 and (len(rows) < 16 or d == 2):
                        _, leading = reduced_rows((0, d), rows)
                        self.assertEqual(seen(d, family, n, m), len(leading))

    def test_60_diagrams_and_12_points(self):
        # With d = 1 all diagrams have the same table.
        for family in FAMILIES:
            for n, m in itertools.product(range(9), range(9)):
                if n + m <= 12:
                    if counted(family, n, m) > 60:
                        self.assertRaises(TooLarge, seen, 1, family, n, m)
                    else:
                        due = 1 if counted(family, n, m) else 0
                        self.assertEqual(seen(1, family, n, m), due)
        self.assertEqual(seen(4, "loose", 8, 1), 9)
        self.assertEqual(seen(4, "even", 1, 8), 0)

    def test_errors_in_order(self):
        for d in BAD_D:
            self.assertRaises(BadNumber, seen, d, "odd", 1, 1)
            self.assertRaises(BadNumber, seen, d, "parts", 4, 4)
        for n, m in ((-1, 0), (0, -1), (9, 0), (0, 9), (7, 6), (10 ** 40, 1)):
            self.assertRaises(NotFamily, seen, 4, "odd", n, m)
            self.assertRaises(BadNumber, seen, 4, "parts", n, m)
        self.assertRaises(TooLarge, seen, 4, "parts", 4, 4)
        self.assertRaises(TooLarge, seen, 4, "threads", 5, 5)
        self.assertEqual(seen(2, "pairs", 2, 2), 3)
        self.assertEqual(seen(1, "threads", 2, 2), 1)
        self.assertEqual(seen(2, "threads", 2, 2), 2)
