"""Points [205] to [207]: powers of diagrams, and squares."""

import random
import unittest

from tests.helpers import any_diagram, family_diagrams, put_by_hand, word_by_hand
from threadworth.basics import bridge, cut, hook, swap, unit
from threadworth.diagrams import FAMILIES, counted, from_labels, labels
from threadworth.errors import BadNumber, NotDiagram, NotFamily, TooLarge
from threadworth.powers import is_square, power, squares, start_and_round
from threadworth.texts import read_diagram

WRONG = (1, 1, ((1,), (0,)))
MOST = 10 ** 40


def shifted(n):
    """The loose diagram that joins each place above to the next one below."""
    return from_labels(n, n, list(range(n)) + [n] + list(range(n - 1)))


def turned(n, cycles):
    """The thread that goes round some cycles."""
    marks = list(range(n)) + [0] * n
    for cycle in cycles:
        for place, following in zip(cycle, cycle[1:] + cycle[:1]):
            marks[n + following] = place
    return from_labels(n, n, marks)


# A cycle beside places that are shifted out: the start is 4 or 3, the round 2 or 3.
MIXED = (
    from_labels(6, 6, [0, 1, 2, 3, 4, 5, 1, 0, 6, 2, 3, 4]),
    from_labels(6, 6, [0, 1, 2, 3, 4, 5, 1, 2, 0, 6, 3, 4]),
)


def powers_by_hand(diagram, most):
    """The powers up to a count, each with all loops, one diagram after the other."""
    found = [(0, unit(diagram[0]))]
    for _ in range(most):
        loops, made = found[-1]
        more, made = put_by_hand(made, diagram)
        found.append((loops + more, made))
    return found


def coming_round(powers):
    """The least start and round, by trying all pairs."""
    diagrams = [made for _, made in powers]
    for start in range(len(powers)):
        for size in range(1, len(powers) - start):
            if diagrams[start] == diagrams[start + size]:
                return start, size
    raise AssertionError("too few powers")


def some_diagrams():
    source = random.Random(205)
    found = [any_diagram(source, n, n) for n in (4, 5, 6) for _ in range(12)]
    for n in range(3):
        found += family_diagrams("parts", n, n)
    found += source.sample(family_diagrams("parts", 3, 3), 30)
    found += source.sample(family_diagrams("loose", 4, 4), 10)
    found += source.sample(family_diagrams("pairs", 4, 4), 10)
    found += [shifted(n) for n in range(1, 7)] + list(MIXED)
    found += [turned(6, [[0, 1, 2], [3, 4], [5]]), turned(6, [[0, 1, 2, 3, 4, 5]])]
    found += [turned(5, [[0, 1, 2], [3, 4]]), unit(6), hook(6, 2), bridge(6, 0), cut(6, 5)]
    return found


class PowerTest(unittest.TestCase):

    def test_one_after_the_other(self):
        for diagram in some_diagrams():
            powers = powers_by_hand(diagram, 16)
            for count, due in enumerate(powers):
                self.assertEqual(power(diagram, count), due)
            self.assertEqual(start_and_round(diagram), coming_round(powers))

    def test_long_starts_and_rounds(self):
        for n in range(1, 7):
            self.assertEqual(start_and_round(shifted(n)), (n, 1))
            singles = tuple((k,) for k in range(2 * n))
            self.assertEqual(power(shifted(n), n)[1], (n, n, singles))
            self.assertNotEqual(power(shifted(n), n - 1)[1], (n, n, singles))
        self.assertEqual(start_and_round(turned(6, [[0, 1, 2], [3, 4], [5]])), (0, 6))
        self.assertEqual(start_and_round(turned(6, [[0, 1, 2, 3, 4, 5]])), (0, 6))
        self.assertEqual(start_and_round(turned(5, [[0, 1, 2], [3, 4]])), (0, 6))
        self.assertEqual(start_and_round(MIXED[0]), (4, 2))
        self.assertEqual(start_and_round(MIXED[1]), (3, 3))
        for diagram, due in (
            (unit(4), (0, 1)), ((0, 0, ()), (0, 1)), (swap(2, 0), (0, 2)), (hook(2, 0), (1, 1)),
            (cut(1, 0), (1, 1)),
        ):
            self.assertEqual(start_and_round(diagram), due)

    def test_each_round_makes_as_many_loops(self):
        for diagram in some_diagrams():
            start, size = start_and_round(diagram)
            powers = powers_by_hand(diagram, start + 2 * size + 1)
            made = {
                powers[k + size][0] - powers[k][0] for k in range(start, start + size + 1)
            }
            self.assertEqual(len(made), 1)

    def test_great_powers(self):
        source = random.Random(206)
        for diagram in some_diagrams():
            start, size = coming_round(powers_by_hand(diagram, 16))
            powers = powers_by_hand(diagram, start + size)
            each = powers[start + size][0] - powers[start][0]
            for count in (MOST, MOST - 1, 10 ** 12 + source.randrange(100), source.randrange(MOST)):
                rounds, beyond = divmod(count - start, size)
                loops, made = powers[start + beyond]
                self.assertEqual(power(diagram, count), (loops + rounds * each, made))

    def test_sums_of_counts(self):
        # Powers put together are powers, with all loops.
        source = random.Random(207)
        for diagram in some_diagrams():
            one, other = source.randrange(50), source.randrange(MOST // 2)
            first, above = power(diagram, one)
            second, below = power(diagram, other)
            more, made = put_by_hand(above, below)
            self.assertEqual(power(diagram, one + other), (first + second + more, made))

    def test_examples(self):
        diagram = read_diagram("aab|bcc")
        self.assertEqual(start_and_round(diagram), (1, 1))
        self.assertEqual(power(diagram, 10), (0, diagram))
        self.assertEqual(power(hook(2, 0), 10), (9, hook(2, 0)))
        self.assertEqual(power(hook(2, 0), 0), (0, unit(2)))
        self.assertEqual(power(hook(2, 0), 1), (0, hook(2, 0)))
        self.assertEqual(power(hook(2, 0), MOST), (MOST - 1, hook(2, 0)))
        self.assertEqual(power(cut(6, 3), MOST), (MOST - 1, cut(6, 3)))
        self.assertEqual(power((0, 0, ()), MOST), (0, (0, 0, ())))
        loops, made = word_by_hand(3, (("e", 0), ("s", 1)) * 7)
        self.assertEqual(power(word_by_hand(3, (("e", 0), ("s", 1)))[1], 7), (loops, made))

    def test_errors_in_order(self):
        for wrong in (WRONG, (9, 9, ()), (7, 7, ())):
            self.assertRaises(NotDiagram, power, wrong, -1)
            self.assertRaises(NotDiagram, start_and_round, wrong)
            self.assertRaises(NotDiagram, is_square, wrong)
        for uneven in ((1, 0, ((0,),)), (2, 1, ((0, 1, 2),)), (0, 8, (tuple(range(8)),))):
            self.assertRaises(BadNumber, power, uneven, 1)
            self.assertRaises(BadNumber, power, uneven, -1)
            self.assertRaises(BadNumber, start_and_round, uneven)
            self.assertRaises(BadNumber, is_square, uneven)
        for count in (-1, -MOST, MOST + 1, MOST * MOST):
            self.assertRaises(BadNumber, power, unit(2), count)


class SquareTest(unittest.TestCase):

    def test_put_above_itself(self):
        for diagram in some_diagrams():
            _, made = put_by_hand(diagram, diagram)
            self.assertIs(is_square(diagram), made == diagram)
        self.assertIs(is_square(hook(2, 0)), True)
        self.assertIs(is_square(swap(2, 0)), False)
        self.assertIs(is_square((0, 0, ())), True)

    def test_there_is_one_among_the_powers(self):
        for diagram in some_diagrams():
            start, size = start_and_round(diagram)
            found = [power(diagram, count)[1] for count in range(1, start + size + 1)]
            self.assertTrue(any(is_square(made) for made in found))

    def test_lists_of_families(self):
        for family in FAMILIES:
            for n in range(5):
                if counted(family, n, n) > 250:
                    self.assertRaises(TooLarge, squares, family, n)
                    continue
                found = squares(family, n)
                due = [
                    diagram for diagram in family_diagrams(family, n, n)
                    if put_by_hand(diagram, diagram)[1] == diagram
                ]
                self.assertEqual(found, due)
                rows = [labels(diagram) for diagram in found]
                self.assertEqual(rows, sorted(rows))
                found.clear()
                self.assertEqual(squares(family, n), due)
        for n in range(6):
            self.assertEqual(squares("threads", n), [unit(n)])

    def test_families_within_and_beyond_250(self):
        # 203 parts, 209 loose ones, 105 pairs, 120 threads, 76 lonepairs, 31 even ones; one
        # strand more, and there are 4140, 1546, 945, 720, 764 and 379 of them.
        for family, within in (
            ("parts", 3), ("loose", 4), ("pairs", 4), ("threads", 5), ("lonepairs", 3), ("even", 3),
        ):
            self.assertGreater(len(squares(family, within)), 0)
            for n in range(within + 1, 7):
                self.assertRaises(TooLarge, squares, family, n)

    def test_errors_in_order(self):
        for n in (-1, 7, 8, MOST):
            self.assertRaises(NotFamily, squares, "part", n)
            for family in FAMILIES:
                self.assertRaises(BadNumber, squares, family, n)
        self.assertRaises(NotFamily, squares, "", 2)
