"""Points [180] to [187]: arrangements of threads, their falls, and rests."""

import itertools
import math
import random
import unittest

from tests.helpers import (
    Unchanged, any_terms, as_values, closing_by_hand, put_by_hand, raised_d, reduced_rows,
)
from threadworth.alike import are_alike, is_lost, lost_basis
from threadworth.basics import cut, hook, swap, unit
from threadworth.diagrams import listed
from threadworth.errors import BadNumber, NotDiagram, NotWorld
from threadworth.falling import (
    are_alike_threads, arrangement, exchanges, is_kept, kept, kept_number, longest_fall,
    lost_exchange, rest_of, sign, thread,
)
from threadworth.putting import over, put
from threadworth.sums import Sum, unit_sum, zero_sum

WRONG = (1, 1, ((1,), (0,)))
WRONG_WORLDS = ((0, 21), (0, -21), (4, 1), (5, 5), (5, -1), (37, 0), (-2, 0))
RESTS = ((2, 0), (2, 1), (3, 2), (31, 30))
WRONG_PLACES = ((0, 0), (1,), (-1, 0), (0, 1, 3), (1, 2), (0, 1, 2, 3, 4, 4), (10 ** 40, 0),
                (0, 1, 2, 3, 4, 6))
SIX = (5, 4, 3, 2, 1, 0)
HUGE = 10 ** 40


def fractions(*told):
    return [(0, d) for d in told]


def arrangements(n):
    return list(itertools.permutations(range(n)))


def descents(places):
    return sum(high > low for high, low in itertools.combinations(places, 2))


def sign_by_cycles(places):
    """Each cycle of k places is made of k - 1 exchanges."""
    left, found = set(range(len(places))), 1
    while left:
        place = left.pop()
        while places[place] in left:
            place = places[place]
            left.remove(place)
            found = -found
    return found


def falls(places):
    """All falls, by trying all rows of indexes."""
    found = []
    for size in range(len(places) + 1):
        for row in itertools.combinations(range(len(places)), size):
            if all(places[low] > places[high] for low, high in zip(row, row[1:])):
                found.append(list(row))
    return found


def undone(places):
    return tuple(places.index(k) for k in range(len(places)))


def kept_by_hand(world, places):
    return all(len(fall) < abs(world[1]) + 1 for fall in falls(places))


def exchanged_by_hand(places, indexes):
    rest = [k for k in range(len(places)) if k not in indexes]
    return [
        other for other in arrangements(len(places)) if all(other[k] == places[k] for k in rest)
    ]


def shapes(k, most):
    """The shapes of k whose integers are at most so great."""
    if k == 0:
        return [()]
    return [
        (first,) + shape for first in range(1, min(k, most) + 1) for shape in shapes(k - first, first)
    ]


def fillings_by_hooks(shape):
    """The number of fillings, by the product of the lengths of the hooks of the cells."""
    product = 1
    for i, size in enumerate(shape):
        for j in range(size):
            product *= size - j + sum(1 for other in shape[i + 1:] if other > j)
    return math.factorial(sum(shape)) // product


def any_threads(source, world, n, many=5):
    return Sum(world, n, n, any_terms(source, world, listed("threads", n, n), many))


def lost_by_hand(one):
    """Tell if the worth with each thread is 0, by components."""
    for c in listed("threads", one.n, one.n):
        total = 0
        for diagram, x in one.terms():
            loops, made = put_by_hand(diagram, c)
            total += x[0] * raised_d(one.world, loops + closing_by_hand(made)) / x[1]
        if abs(total) > 1e-6:
            return False
    return True


class ArrangementTest(unittest.TestCase):

    def test_to_and_fro(self):
        for n in range(6):
            for places in arrangements(n):
                made = thread(places)
                self.assertEqual(made, (n, n, tuple((k, n + places[k]) for k in range(n))))
                self.assertEqual(arrangement(made), places)
        for n in range(6):
            self.assertEqual(
                sorted(arrangement(one) for one in listed("threads", n, n)), arrangements(n)
            )
        self.assertEqual(arrangement((6, 6, tuple((k, 11 - k) for k in range(6)))), SIX)
        self.assertEqual(arrangement((0, 0, ())), ())
        self.assertEqual(thread(()), (0, 0, ()))

    def test_above_one_another_and_turned_over(self):
        source = random.Random(180)
        for n in range(6):
            for _ in range(20):
                one, other = source.choice(arrangements(n)), source.choice(arrangements(n))
                loops, made = put(thread(one), thread(other))
                self.assertEqual(loops, 0)
                self.assertEqual(arrangement(made), tuple(other[place] for place in one))
                self.assertEqual(arrangement(over(thread(one))), undone(one))
                self.assertEqual(sign(arrangement(made)), sign(one) * sign(other))

    def test_signs(self):
        for n in range(6):
            for places in arrangements(n):
                due = -1 if descents(places) % 2 else 1
                self.assertEqual(sign(places), due)
                self.assertEqual(sign_by_cycles(places), due)
                self.assertEqual(sign(undone(places)), due)
        self.assertEqual((sign(()), sign((0,)), sign((1, 0)), sign((2, 0, 1))), (1, 1, -1, 1))

    def test_errors(self):
        self.assertRaises(NotDiagram, arrangement, WRONG)
        self.assertRaises(NotDiagram, arrangement, (9, 9, ()))
        for diagram in (hook(2, 0), cut(1, 0), (1, 0, ((0,),)), (2, 1, ((0, 2), (1,))),
                        (0, 2, ((0, 1),)), (2, 2, ((0, 1, 2, 3),))):
            self.assertRaises(BadNumber, arrangement, diagram)
        for function in (thread, sign, longest_fall):
            for places in WRONG_PLACES:
                self.assertRaises(NotDiagram, function, places)
            for places in (SIX, tuple(range(6)), tuple(range(100))):
                self.assertRaises(BadNumber, function, places)


class FallTest(unittest.TestCase):

    def test_the_first_of_the_longest(self):
        for n in range(6):
            for places in arrangements(n):
                tried = falls(places)
                most = max(len(fall) for fall in tried)
                due = min(fall for fall in tried if len(fall) == most)
                self.assertEqual(longest_fall(places), due)
                self.assertEqual(len(longest_fall(undone(places))), most)

    def test_examples(self):
        for places, due in (
            ((), []), ((0,), [0]), ((0, 1, 2), [0]), ((2, 1, 0), [0, 1, 2]),
            ((1, 3, 0, 2), [0, 2]), ((2, 4, 1, 3, 0), [0, 2, 4]), ((0, 2, 1, 4, 3), [1, 2]),
        ):
            self.assertEqual(longest_fall(places), due)
        found = longest_fall((1, 0))
        found.clear()
        self.assertEqual(longest_fall((1, 0)), [0, 1])

    def test_by_the_lengths_of_falls_that_end_somewhere(self):
        # [186]
        for places in arrangements(5):
            lengths = []
            for k, place in enumerate(places):
                before = [lengths[j] for j in range(k) if places[j] > place]
                lengths.append(max(before, default=0) + 1)
            self.assertEqual(len(longest_fall(places)), max(lengths))


class KeptTest(unittest.TestCase):

    def test_by_all_falls(self):
        for world in fractions(-20, -5, -4, -3, -2, -1, 0, 1, 2, 3, 4, 5, 20):
            for n in range(6):
                due = [places for places in arrangements(n) if kept_by_hand(world, places)]
                self.assertEqual(kept(world, n), due)
                self.assertEqual(kept_number(world, n), len(due))
                for places in arrangements(n):
                    self.assertIs(is_kept(world, places), places in due)

    def test_0_and_many_colours(self):
        self.assertEqual(kept((0, 0), 0), [()])
        for n in range(1, 6):
            self.assertEqual(kept((0, 0), n), [])
            self.assertEqual(kept_number((0, 0), n), 0)
            for d in (n, -n, 20, -20):
                self.assertEqual(kept((0, d), n), arrangements(n))
            self.assertLess(len(kept((0, n - 1), n)), math.factorial(n))
        self.assertEqual(kept_number((0, 0), 12), 0)
        self.assertEqual(kept_number((0, 0), 0), 1)

    def test_their_number_by_shapes(self):
        for n in range(13):
            for d in (0, 1, 2, 3, 4, 7, 11, 12, 20):
                due = sum(
                    fillings_by_hooks(shape) ** 2 for shape in shapes(n, n) if len(shape) <= d
                )
                self.assertEqual(kept_number((0, d), n), due)
                self.assertEqual(kept_number((0, -d), n), due)
            self.assertEqual(kept_number((0, 20), n), math.factorial(n))
            self.assertEqual(kept_number((0, 12), n), math.factorial(n))
            self.assertEqual(
                kept_number((0, 2), n), math.factorial(2 * n) // math.factorial(n)
                // math.factorial(n + 1)
            )
        self.assertEqual(kept_number((0, 11), 12), math.factorial(12) - 1)

    def test_errors_in_order(self):
        for world in WRONG_WORLDS:
            self.assertRaises(NotWorld, is_kept, world, (0, 0))
            self.assertRaises(NotWorld, kept, world, -1)
            self.assertRaises(NotWorld, kept_number, world, -1)
        for world in RESTS:
            self.assertRaises(BadNumber, is_kept, world, (0, 0))
            self.assertRaises(BadNumber, is_kept, world, (0, 1))
            self.assertRaises(BadNumber, kept, world, 2)
            self.assertRaises(BadNumber, kept_number, world, 2)
        for places in WRONG_PLACES:
            self.assertRaises(NotDiagram, is_kept, (0, 2), places)
        self.assertRaises(BadNumber, is_kept, (0, 2), SIX)
        for n in (-1, 6, 7, HUGE):
            self.assertRaises(BadNumber, kept, (0, 2), n)
        for n in (-1, 13, HUGE):
            self.assertRaises(BadNumber, kept_number, (0, 2), n)


class ExchangeTest(unittest.TestCase):

    def test_all_exchanges_in_order(self):
        source = random.Random(183)
        for n in range(6):
            for places in arrangements(n) if n < 5 else source.sample(arrangements(5), 12):
                for size in range(n + 1):
                    for indexes in itertools.combinations(range(n), size):
                        indexes = list(indexes)
                        due = exchanged_by_hand(places, indexes)
                        with Unchanged(self, places, indexes):
                            found = exchanges(places, indexes)
                        self.assertEqual(found, due)
                        self.assertEqual(len(found), math.factorial(size))

    def test_errors_of_exchanges(self):
        for places in WRONG_PLACES:
            self.assertRaises(NotDiagram, exchanges, places, [1, 0])
        self.assertRaises(BadNumber, exchanges, SIX, [0])
        for n in (4, 5):
            places = tuple(range(n))
            for indexes in ([1, 0], [0, 0], [2, 1, 3], [0, 2, 2], [-1, 0], [-1], [n], [0, n],
                            [0, HUGE], [-HUGE], [0, 1, 2, 3, 4, 5], [3, -1]):
                self.assertRaises(BadNumber, exchanges, places, indexes)
        self.assertRaises(BadNumber, exchanges, (), [0])
        self.assertEqual(exchanges((), []), [()])
        self.assertEqual(exchanges((1, 0), []), [(1, 0)])
        self.assertEqual(exchanges((1, 0), [0]), [(1, 0)])
        self.assertEqual(exchanges((1, 0), [0, 1]), [(0, 1), (1, 0)])

    def test_lost_sums_of_exchanges(self):
        for d in range(-4, 5):
            world, size = (0, d), abs(d) + 1
            for n in range(5):
                for places in arrangements(n):
                    for indexes in itertools.combinations(range(n), size):
                        one = lost_exchange(world, places, list(indexes))
                        due = {
                            thread(other): (sign_by_cycles(other) if d > 0 else 1, 1)
                            for other in exchanged_by_hand(places, indexes)
                        }
                        self.assertEqual(dict(one.terms()), due)
                        self.assertEqual((one.world, one.n, one.m), (world, n, n))
                        self.assertIs(is_lost(one, "threads"), True)
                        if places[0] == 0:
                            self.assertTrue(lost_by_hand(one))

    def test_errors_of_lost_exchange(self):
        for world in WRONG_WORLDS:
            self.assertRaises(NotWorld, lost_exchange, world, (0, 0), [5])
        for world in RESTS:
            self.assertRaises(BadNumber, lost_exchange, world, (0, 0), [5])
            self.assertRaises(BadNumber, lost_exchange, world, (0, 1), [0, 1])
        for places in WRONG_PLACES:
            self.assertRaises(NotDiagram, lost_exchange, (0, 2), places, [1, 0])
        self.assertRaises(BadNumber, lost_exchange, (0, 1), SIX, [0, 1])
        self.assertRaises(BadNumber, lost_exchange, (0, 1), (0, 1, 2, 3, 4), [0, 1])
        for d, indexes in (
            (1, [0]), (1, [0, 1, 2]), (1, []), (0, []), (0, [0, 1]), (-1, [0]), (-2, [0, 1]),
            (2, [0, 1, 2, 3]), (3, [0, 1, 2]), (1, [1, 0]), (1, [0, 0]), (1, [0, 4]),
            (1, [-1, 0]), (4, [0, 1, 2, 3]), (20, [0, 1]), (0, [4]), (0, [-1]),
        ):
            self.assertRaises(BadNumber, lost_exchange, (0, d), (3, 1, 0, 2), indexes)
        self.assertRaises(BadNumber, lost_exchange, (0, 0), (), [])
        self.assertRaises(BadNumber, lost_exchange, (0, 0), (), [0])

    def test_of_all_exchanges_at_a_fall_the_arrangement_descends_most(self):
        # [184]
        for n in range(6):
            for places in arrangements(n):
                fall = longest_fall(places)
                for size in range(1, len(fall) + 1):
                    others = [
                        descents(other) for other in exchanges(places, fall[:size])
                        if other != places
                    ]
                    self.assertTrue(all(many < descents(places) for many in others))


class RestTest(unittest.TestCase):

    WORLDS = fractions(-20, -4, -3, -2, -1, 0, 1, 2, 3, 4, 20)

    def check(self, one):
        """Check that the rest has kept threads alone and is alike to the sum."""
        before = one.terms()
        rest = rest_of(one)
        self.assertEqual((rest.world, rest.n, rest.m), (one.world, one.n, one.n))
        for diagram, _ in rest.terms():
            self.assertTrue(kept_by_hand(one.world, arrangement(diagram)))
        self.assertIs(are_alike(one, rest, "threads"), True)
        self.assertEqual(one.terms(), before)
        self.assertEqual(rest_of(rest), rest)
        return rest

    def test_single_threads(self):
        for world in self.WORLDS:
            for n in range(5):
                for diagram in listed("threads", n, n):
                    rest = self.check(Sum(world, n, n, [(diagram, (1, 1))]))
                    if kept_by_hand(world, arrangement(diagram)):
                        self.assertEqual(rest.terms(), [(diagram, (1, 1))])

    def test_drawn_sums(self):
        source = random.Random(185)
        for world in self.WORLDS:
            for n in range(5):
                one, other = any_threads(source, world, n), any_threads(source, world, n)
                rest, second = self.check(one), self.check(other)
                self.assertEqual(rest_of(one + other), rest + second)
                self.assertEqual(rest_of(one.scaled((-2, 3))), rest.scaled((-2, 3)))
                self.assertEqual(rest_of(one * other), rest_of(rest * second))
                self.assertIs(is_lost(one, "threads"), not rest)
                self.assertIs(are_alike_threads(one, other), rest == second)
                self.assertIs(are_alike_threads(one, other), are_alike(one, other, "threads"))

    def test_alike_sums_have_one_rest(self):
        source = random.Random(186)
        for world in fractions(-2, -1, 0, 1, 2, 3):
            for n in range(5):
                basis = lost_basis(world, "threads", n, n)
                self.assertEqual(len(basis), math.factorial(n) - kept_number(world, n))
                for lost in basis[:6]:
                    one = any_threads(source, world, n)
                    self.assertEqual(rest_of(lost), zero_sum(world, n, n))
                    self.assertEqual(rest_of(one + lost), rest_of(one))
                    self.assertIs(are_alike_threads(one, one + lost.scaled((3, 7))), True)

    def test_no_sum_of_kept_threads_is_lost(self):
        for world in self.WORLDS:
            for n in range(5):
                diagrams = listed("threads", n, n)
                rows = []
                for places in kept(world, n):
                    closers = [put_by_hand(thread(places), c)[1] for c in diagrams]
                    rows.append([(raised_d(world, closing_by_hand(c)), 1) for c in closers])
                found, _ = reduced_rows(world, as_values(world, rows))
                self.assertEqual(len(found), len(rows))

    def test_examples(self):
        crossed = Sum((0, 1), 2, 2, [(swap(2, 0), (1, 1))])
        self.assertEqual(longest_fall((1, 0)), [0, 1])
        self.assertEqual(rest_of(crossed), unit_sum((0, 1), 2))
        crossed = Sum((0, -1), 2, 2, [(swap(2, 0), (1, 1))])
        self.assertEqual(rest_of(crossed).terms(), [(unit(2), (-1, 1))])
        self.assertEqual(
            kept((0, 2), 3), [places for places in arrangements(3) if places != (2, 1, 0)]
        )
        turned = Sum((0, 2), 3, 3, [(thread((2, 1, 0)), (1, 1))])
        self.assertEqual(dict(rest_of(turned).terms()), {
            thread((0, 1, 2)): (1, 1), thread((1, 0, 2)): (-1, 1), thread((0, 2, 1)): (-1, 1),
            thread((1, 2, 0)): (1, 1), thread((2, 0, 1)): (1, 1),
        })

    def test_d_0_and_no_strands(self):
        for n in range(1, 5):
            self.assertEqual(rest_of(unit_sum((0, 0), n)), zero_sum((0, 0), n, n))
        for d in (-1, 0, 1):
            self.assertEqual(rest_of(unit_sum((0, d), 0)), unit_sum((0, d), 0))
        self.assertEqual(rest_of(zero_sum((0, 3), 4, 4)), zero_sum((0, 3), 4, 4))

    def test_errors(self):
        good = unit_sum((0, 2), 2)
        for wrong in (
            zero_sum((0, 2), 2, 1), zero_sum((0, 2), 0, 2), unit_sum((2, 0), 2),
            zero_sum((5, 2), 2, 2), Sum((0, 2), 2, 2, [(hook(2, 0), (1, 1))]),
            Sum((0, 2), 2, 2, [(unit(2), (1, 1)), (cut(2, 1), (1, 1))]),
        ):
            self.assertRaises(BadNumber, rest_of, wrong)
            self.assertRaises(BadNumber, are_alike_threads, wrong, good)
            self.assertRaises(BadNumber, are_alike_threads, good, wrong)
        for other in (unit_sum((0, 1), 2), unit_sum((0, 2), 1), zero_sum((0, 2), 3, 3)):
            self.assertRaises(BadNumber, are_alike_threads, good, other)
            self.assertRaises(BadNumber, are_alike_threads, other, good)
        self.assertIs(are_alike_threads(good, good), True)
