"""Points [140] to [146]: sums that are alike in every closing."""

import itertools
import random
import unittest

from tests.helpers import (
    any_diagram, any_number, any_terms, as_number, as_rest, as_value, as_values, closing_by_hand,
    context_worth_by_hand, family_diagrams, put_by_hand, raised_d, reduced_rows, sizes_up_to,
)
from threadworth.alike import (
    apart, are_alike, decide, is_answer, is_lost, kept, lost_basis, plain, worth_in_context,
    worths_of,
)
from threadworth.basics import cut, hook, swap, unit
from threadworth.diagrams import FAMILIES, counted, is_in, listed
from threadworth.errors import BadNumber, NotDiagram, NotFamily, NotWorld, TooLarge
from threadworth.linear import echelon, kernel
from threadworth.sums import Sum, unit_sum, zero_sum
from threadworth.tables import is_spoilt, worths

WORLDS = ((0, 2), (0, 0), (0, 1), (0, -2), (2, 1), (3, 0), (5, 4))
SMALL = ((0, 0), (1, 0), (1, 1), (2, 1), (1, 2), (0, 3), (2, 2), (1, 3))
WRONG = (1, 1, ((1,), (0,)))
SWAP = swap(2, 0)


def any_sum(source, world, family, n, m, many=4):
    diagrams = listed(family, n, m)
    return Sum(world, n, m, any_terms(source, world, diagrams, many))


def worths_by_hand(one, family):
    """The worths of the products with the diagrams of the family, by components."""
    world = one.world
    found = []
    for c in family_diagrams(family, one.m, one.n):
        total = 0
        for diagram, x in one.terms():
            loops, made = put_by_hand(diagram, c)
            total += as_value(world, x) * raised_d(world, loops + closing_by_hand(made))
        found.append(as_number(world, as_rest(world[0], total)))
    return found


def any_context(source, family, n, m):
    """A context for n and m with u and v in the family, or None if there is none."""
    for _ in range(20):
        left, right, k = source.randrange(2), source.randrange(2), source.randrange(4)
        above, below = left + n + right, left + m + right
        if 0 < counted(family, k, above) <= 250 and 0 < counted(family, below, k) <= 250:
            u = source.choice(listed(family, k, above))
            v = source.choice(listed(family, below, k))
            return (u, v, left, right)
    return None


def context_sum_by_hand(one, u, v, left, right):
    world = one.world
    return as_number(world, as_rest(world[0], sum(
        as_value(world, x) * raised_d(world, context_worth_by_hand(diagram, u, v, left, right))
        for diagram, x in one.terms()
    )))


def lost_sums(source, world, family, n, m, many=2):
    """Some lost sums, drawn as sums of multiples of the basis."""
    basis = lost_basis(world, family, n, m)
    found = []
    for _ in range(many if basis else 0):
        total = zero_sum(world, n, m)
        for one in basis:
            total = total + one.scaled(any_number(source, world))
        found.append(total)
    return basis[:2] + found


class WorthsTest(unittest.TestCase):

    def test_worths_by_the_list_of_the_family(self):
        source = random.Random(140)
        for family, world in itertools.product(FAMILIES, WORLDS):
            for n, m in SMALL:
                one = any_sum(source, world, family, n, m)
                before = one.terms()
                due = worths_by_hand(one, family)
                self.assertEqual(worths_of(one, family), due)
                self.assertIs(is_lost(one, family), all(x == (0, 1) for x in due))
                self.assertEqual(one.terms(), before)

    def test_rows_of_the_table_of_worths(self):
        for family in FAMILIES:
            for n, m in ((2, 2), (3, 0), (1, 2)):
                table = worths((0, 3), family, n, m)
                for diagram, row in zip(listed(family, n, m), table):
                    one = Sum((0, 3), n, m, [(diagram, (1, 1))])
                    # The diagrams turned over have another order.
                    self.assertEqual(sorted(worths_of(one, family)), sorted(row))

    def test_8_points(self):
        for family, n, m in (("threads", 4, 4), ("pairs", 8, 0), ("loose", 0, 8),
                             ("loose", 8, 0), ("pairs", 3, 5)):
            diagrams = listed(family, n, m)
            one = Sum((0, 2), n, m, [(diagrams[0], (1, 2)), (diagrams[-1], (1, 1))])
            self.assertEqual(worths_of(one, family), worths_by_hand(one, family))
            self.assertIs(is_lost(one - one, family), True)

    def test_without_diagrams(self):
        one = zero_sum((0, 2), 2, 1)
        self.assertEqual(worths_of(one, "threads"), [])
        self.assertIs(is_lost(one, "threads"), True)
        self.assertEqual(decide(one, one, "pairs"), ("alike", []))
        self.assertEqual(plain(one, "even"), one)

    def test_no_list_is_shared(self):
        one = unit_sum((0, 2), 1)
        worths_of(one, "parts").clear()
        decide(one, one, "parts")[1].clear()
        self.assertEqual(len(worths_of(one, "parts")), 2)


class ContextTest(unittest.TestCase):

    def test_worths_in_drawn_contexts(self):
        source = random.Random(141)
        for family, world in itertools.product(FAMILIES, WORLDS):
            for n, m in SMALL:
                context = any_context(source, family, n, m)
                if context:
                    one = any_sum(source, world, family, n, m)
                    due = context_sum_by_hand(one, *context)
                    self.assertEqual(worth_in_context(one, *context), due)

    def test_lost_sums_have_the_worth_0_in_each_context(self):
        source = random.Random(142)
        tried = 0
        for family, world in itertools.product(FAMILIES, WORLDS):
            for n, m in SMALL:
                for one in lost_sums(source, world, family, n, m, 1):
                    self.assertIs(is_lost(one, family), True)
                    for _ in range(3):
                        context = any_context(source, family, n, m)
                        if context:
                            self.assertEqual(worth_in_context(one, *context), (0, 1))
                            tried += 1
        self.assertGreater(tried, 300)

    def test_what_is_not_lost_has_a_context(self):
        # Below the unit as u, the diagram c as v closes the sum as it closes a product.
        source = random.Random(143)
        for world in WORLDS:
            one = any_sum(source, world, "parts", 2, 2)
            for c, worth in zip(listed("parts", 2, 2), worths_of(one, "parts")):
                self.assertEqual(worth_in_context(one, unit(2), c, 0, 0), worth)

    def test_many_closed_pieces(self):
        singles = tuple((k,) for k in range(12))
        one = Sum((0, -20), 2, 2, [(unit(2), (1, 3))])
        found = worth_in_context(one, (4, 8, singles), (8, 4, singles), 3, 3)
        # 4 pieces of points that are closed, 6 of the strands, and 2 of the unit.
        self.assertEqual(found, as_number((0, -20), as_value((0, 1), (1, 3)) * 20 ** 12))

    def test_errors_in_order(self):
        one = unit_sum((0, 2), 1)
        self.assertRaises(NotDiagram, worth_in_context, one, WRONG, (9, 9, ()), -1, 0)
        self.assertRaises(NotDiagram, worth_in_context, one, unit(3), WRONG, -1, 0)
        for u, v, left, right in (
            (unit(3), unit(3), -1, 0), (unit(3), unit(3), 0, -1), (unit(3), unit(3), 2, 2),
            (unit(3), unit(2), 0, 0), (unit(3), unit(3), 0, 0), (unit(3), unit(3), 0, 1),
            (unit(3), unit(3), 1, 2),
        ):
            self.assertRaises(BadNumber, worth_in_context, one, u, v, left, right)
        eight = (4, 8, tuple((k,) for k in range(12)))
        turned = (8, 4, tuple((k,) for k in range(12)))
        # The sum does not fit either, but the size of the context is told first.
        self.assertRaises(TooLarge, worth_in_context, one, eight, turned, 0, 0)
        self.assertRaises(TooLarge, worth_in_context, one, eight, turned, 1, 0)
        self.assertRaises(BadNumber, worth_in_context, one, eight, turned, 1, 1)


class AlikeTest(unittest.TestCase):

    def test_alike_or_a_first_diagram(self):
        source = random.Random(144)
        seen = {True: 0, False: 0}
        for family, world in itertools.product(FAMILIES, WORLDS):
            for n, m in SMALL:
                one = any_sum(source, world, family, n, m, 3)
                others = [any_sum(source, world, family, n, m, 3)]
                others += [one + lost for lost in lost_sums(source, world, family, n, m)]
                for other in others:
                    self.check(one, other, family)
                    seen[are_alike(one, other, family)] += 1
        self.assertGreater(min(seen.values()), 60)

    def check(self, one, other, family):
        first, second = worths_by_hand(one, family), worths_by_hand(other, family)
        self.assertIs(are_alike(one, other, family), first == second)
        self.assertIs(is_lost(one - other, family), first == second)
        diagrams = family_diagrams(family, one.m, one.n)
        due = next((c for c, x, y in zip(diagrams, first, second) if x != y), None)
        self.assertEqual(apart(one, other, family), due)
        answer = decide(one, other, family)
        self.assertEqual(answer, ("alike", first) if due is None else ("apart", due))
        self.assertIs(is_answer(one, other, family, answer), True)
        self.assertIs(is_answer(one, other, family, ("alike", first)), due is None)
        self.assertIs(is_answer(one, other, family, ("alike", second)), due is None)
        for c, x, y in zip(diagrams, first, second):
            self.assertIs(is_answer(one, other, family, ("apart", c)), x != y)

    def test_example(self):
        first = Sum((0, 1), 2, 2, [(SWAP, (1, 1))])
        self.assertIs(is_lost(first - unit_sum((0, 1), 2), "threads"), True)
        self.assertEqual(kept((0, 1), "threads", 2, 2), [unit(2)])
        self.assertEqual(plain(first, "threads"), unit_sum((0, 1), 2))
        first = Sum((0, 2), 2, 2, [(SWAP, (1, 1))])
        self.assertIs(are_alike(first, unit_sum((0, 2), 2), "threads"), False)
        self.assertEqual(apart(first, unit_sum((0, 2), 2), "threads"), unit(2))
        self.assertEqual(worths_of(first, "threads")[0], (2, 1))
        self.assertEqual(worths_of(unit_sum((0, 2), 2), "threads")[0], (4, 1))

    def test_wrong_answers(self):
        one, other = unit_sum((0, 2), 2), Sum((0, 2), 2, 2, [(SWAP, (1, 1))])
        right = worths_of(one, "threads")
        for told in ([], right[:1], right + [(0, 1)], right[::-1], [(8, 2), (2, 1)], ["x"], None,
                     tuple(right), [[4, 1], [2, 1]]):
            self.assertIs(is_answer(one, one, "threads", ("alike", told)), False)
        self.assertIs(is_answer(one, one, "threads", ("alike", right)), True)
        for told in (
            WRONG, (2, 2, ()), hook(2, 0), cut(2, 0), unit(1), (0, 0, ()), (-1, 3, ((0, 1),)),
            (2, 2, ((0, 2), (1, 3), ())), (2, 2, ((1, 3), (0, 2))), (9, 9, ()),
            (2, 2, ((0, 10 ** 40), (1, 3))), [], None,
        ):
            self.assertIs(is_answer(one, other, "threads", ("apart", told)), False)
        self.assertIs(is_answer(one, other, "threads", ("apart", unit(2))), True)
        self.assertIs(is_answer(one, one, "threads", ("apart", unit(2))), False)
        self.assertIs(is_answer(one, one, "threads", ("none", right)), False)
        self.assertIs(is_answer(one, other, "threads", ("Apart", unit(2))), False)

    def test_the_diagram_has_the_points_the_other_way_round(self):
        one = Sum((0, 2), 2, 1, [((2, 1, ((0, 1, 2),)), (1, 1))])
        other = zero_sum((0, 2), 2, 1)
        self.assertIs(is_answer(one, other, "parts", ("apart", (1, 2, ((0, 1, 2),)))), True)
        self.assertIs(is_answer(one, other, "parts", ("apart", (2, 1, ((0, 1, 2),)))), False)
        self.assertIs(is_answer(one, other, "parts", ("apart", (0, 3, ((0, 1, 2),)))), False)
        self.assertEqual(apart(one, other, "parts"), (1, 2, ((0, 1, 2),)))

    def test_no_answers_of_both_kinds(self):
        source = random.Random(145)
        for world in WORLDS:
            one = any_sum(source, world, "loose", 1, 1)
            other = any_sum(source, world, "loose", 1, 1)
            lists = [worths_of(one, "loose"), worths_of(other, "loose"), [(0, 1)] * 2]
            found = [is_answer(one, other, "loose", ("alike", told)) for told in lists]
            parted = [is_answer(one, other, "loose", ("apart", c)) for c in listed("loose", 1, 1)]
            self.assertIs(any(found) and any(parted), False)
            self.assertIs(any(found) or any(parted), True)


class LostTest(unittest.TestCase):

    def test_sums_multiples_products_beside_and_over(self):
        source = random.Random(146)
        tried = 0
        for family, world in itertools.product(FAMILIES, WORLDS):
            for n, m in ((1, 1), (2, 2), (2, 1), (1, 3)):
                found = lost_sums(source, world, family, n, m)
                for one, two in zip(found, found[::-1]):
                    self.assertIs(is_lost(one + two, family), True)
                    self.assertIs(is_lost(one.scaled(any_number(source, world)), family), True)
                    self.assertIs(is_lost(one * any_sum(source, world, family, m, 1), family), True)
                    self.assertIs(is_lost(any_sum(source, world, family, 2, n) * one, family), True)
                    if n + m <= 3:
                        small = any_sum(source, world, family, 1, 1)
                        self.assertIs(is_lost(one.beside(small), family), True)
                        self.assertIs(is_lost(small.beside(one), family), True)
                    self.assertIs(is_lost(one.over(), family), True)
                    tried += 1
        self.assertGreater(tried, 150)

    def test_what_is_alike_may_be_exchanged(self):
        source = random.Random(147)
        for family, world in itertools.product(FAMILIES, WORLDS):
            for lost in lost_sums(source, world, family, 2, 2, 1):
                one = any_sum(source, world, family, 2, 2)
                other = one + lost
                around = any_sum(source, world, family, 2, 2)
                self.assertIs(are_alike(one * around + one, other * around + one, family), True)


class BasisTest(unittest.TestCase):

    def test_the_kernel_of_the_worths(self):
        for family, world in itertools.product(FAMILIES, WORLDS):
            for n, m in SMALL + ((3, 2), (3, 3)):
                if counted(family, n, m) > 60:
                    continue
                diagrams = listed(family, n, m)
                table = worths(world, family, n, m)
                _, leading = reduced_rows(world, as_values(world, table))
                self.assertEqual(kept(world, family, n, m), [diagrams[k] for k in leading])
                basis = lost_basis(world, family, n, m)
                self.assertEqual(len(basis), len(diagrams) - len(leading))
                vectors = kernel(world, table)
                for one, vector in zip(basis, vectors):
                    self.assertEqual([one.at(diagram) for diagram in diagrams], vector)
                    self.assertEqual((one.world, one.n, one.m), (world, n, m))
                    if counted(family, n, m) <= 15:
                        self.assertIs(is_lost(one, family), True)
                if counted(family, n, m) <= 30:
                    self.assertIs(is_spoilt(world, family, n, m), bool(basis))

    def test_the_plain_sum(self):
        source = random.Random(148)
        for family, world in itertools.product(FAMILIES, WORLDS):
            for n, m in SMALL:
                one = any_sum(source, world, family, n, m)
                made = plain(one, family)
                allowed = kept(world, family, n, m)
                self.assertTrue(all(diagram in allowed for diagram, _ in made.terms()))
                self.assertIs(are_alike(one, made, family), True)
                self.assertEqual(plain(made, family), made)
                for lost in lost_sums(source, world, family, n, m, 1):
                    self.assertEqual(plain(one + lost, family), made)
                    self.assertEqual(plain(lost, family), zero_sum(world, n, m))
                other = any_sum(source, world, family, n, m)
                self.assertIs(
                    are_alike(one, other, family), made == plain(other, family)
                )
                self.assertEqual(plain(one + other, family), made + plain(other, family))

    def test_the_plain_sum_of_a_product(self):
        source = random.Random(149)
        for family, world in itertools.product(FAMILIES, WORLDS):
            for n, m, q in ((1, 1, 1), (2, 2, 2), (1, 2, 1), (0, 2, 2)):
                one = any_sum(source, world, family, n, m)
                other = any_sum(source, world, family, m, q)
                due = plain(plain(one, family) * plain(other, family), family)
                self.assertEqual(plain(one * other, family), due)

    def test_all_are_lost_for_d_0(self):
        for world in ((0, 0), (3, 0)):
            self.assertEqual(kept(world, "parts", 1, 1), [])
            self.assertEqual(len(lost_basis(world, "parts", 1, 1)), 2)
            self.assertEqual(plain(unit_sum(world, 1), "parts"), zero_sum(world, 1, 1))
            self.assertEqual(kept(world, "parts", 0, 0), [(0, 0, ())])
            self.assertEqual(lost_basis(world, "parts", 0, 0), [])

    def test_kept_ones_of_the_plain_sums_of_single_diagrams(self):
        table = worths((0, 1), "lonepairs", 2, 2)
        rows = echelon((0, 1), table)
        self.assertEqual(len(rows), 1)
        for diagram in listed("lonepairs", 2, 2):
            made = plain(Sum((0, 1), 2, 2, [(diagram, (3, 2))]), "lonepairs")
            self.assertEqual(made.terms(), [(listed("lonepairs", 2, 2)[0], (3, 2))])


class ErrorsTest(unittest.TestCase):

    def test_families_sums_and_sizes_in_order(self):
        good = unit_sum((0, 2), 2)
        outside = Sum((0, 2), 2, 2, [(hook(2, 0), (1, 1))])
        other_world = Sum((0, 3), 1, 1, [(unit(1), (1, 1))])
        for call in (worths_of, is_lost, plain):
            self.assertRaises(NotFamily, call, outside, "thread")
            self.assertRaises(BadNumber, call, outside, "threads")
        calls = (
            are_alike, apart, decide,
            lambda one, other, family: is_answer(one, other, family, ("alike", [])),
            lambda one, other, family: is_answer(one, other, family, ("apart", WRONG)),
        )
        for call in calls:
            self.assertRaises(NotFamily, call, outside, other_world, "thread")
            self.assertRaises(BadNumber, call, outside, good, "threads")
            self.assertRaises(BadNumber, call, good, outside, "threads")
            for other in (other_world, unit_sum((5, 2), 2), unit_sum((0, 2), 1),
                          zero_sum((0, 2), 2, 1), zero_sum((0, 2), 1, 2), zero_sum((0, 2), 4, 0)):
                self.assertRaises(BadNumber, call, good, other, "threads")
                self.assertRaises(BadNumber, call, other, good, "threads")
            large = zero_sum((0, 2), 4, 3)
            self.assertRaises(TooLarge, call, large, large, "parts")
            # Other points, and too large besides: the points are told first.
            self.assertRaises(BadNumber, call, large, zero_sum((0, 2), 3, 4), "parts")

    def test_250_diagrams_and_more(self):
        for family, n, m in itertools.product(FAMILIES, range(9), range(9)):
            if n + m > 8:
                continue
            one = zero_sum((0, 2), n, m)
            if counted(family, n, m) > 250:
                self.assertRaises(TooLarge, worths_of, one, family)
                self.assertRaises(TooLarge, is_lost, one, family)
                self.assertRaises(TooLarge, apart, one, one, family)
            elif counted(family, n, m) > 200:
                self.assertEqual(worths_of(one, family), [(0, 1)] * counted(family, n, m))
        # A sum that is in no family with few diagrams, and too large for others.
        any_one = Sum((0, 2), 4, 4, [(any_diagram(random.Random(1), 4, 4), (1, 1))])
        self.assertRaises(BadNumber, worths_of, any_one, "threads")
        self.assertRaises(TooLarge, worths_of, any_one, "parts")

    def test_60_diagrams_and_more(self):
        sizes = [(n, m) for n, m in sizes_up_to(8)]
        for family, (n, m) in itertools.product(FAMILIES, sizes):
            if counted(family, n, m) > 60:
                self.assertRaises(TooLarge, plain, zero_sum((0, 2), n, m), family)
                self.assertRaises(TooLarge, kept, (0, 2), family, n, m)
                self.assertRaises(TooLarge, lost_basis, (0, 2), family, n, m)
        self.assertEqual(max(
            counted(family, n, m) for family in FAMILIES for n, m in sizes
            if counted(family, n, m) <= 60
        ), 52)
        self.assertEqual(len(kept((0, 5), "parts", 4, 1)), 52)
        self.assertEqual(len(lost_basis((0, 1), "parts", 5, 0)), 51)
        self.assertEqual(len(plain(Sum((0, 1), 5, 0, [
            (diagram, (1, 1)) for diagram in listed("parts", 5, 0)
        ]), "parts")), 1)

    def test_basis_errors_in_order(self):
        for call in (lost_basis, kept):
            for n, m in ((-1, 2), (2, -1), (5, 4), (9, 0), (10 ** 40, 0)):
                self.assertRaises(NotWorld, call, (4, 2), "odd", n, m)
                self.assertRaises(NotFamily, call, (5, 2), "odd", n, m)
                self.assertRaises(BadNumber, call, (5, 2), "parts", n, m)
            self.assertRaises(TooLarge, call, (5, 2), "parts", 4, 4)
            self.assertRaises(NotWorld, call, (5, 5), "parts", 4, 4)

    def test_a_basis_of_sums_in_the_family(self):
        for family in FAMILIES:
            for one in lost_basis((0, 1), family, 2, 2):
                self.assertIs(one.is_in(family), True)
                self.assertTrue(all(is_in(family, diagram) for diagram, _ in one.terms()))
