"""Points [80] to [88]: sums."""

import itertools
import random
import unittest

from tests.helpers import (
    Unchanged, added_terms, any_diagram, any_number, any_terms, as_number, as_value,
    closing_by_hand, family_diagrams, family_test, put_by_hand, raised_d, sizes_up_to,
)
from threadworth.basics import bridge, cut, hook, swap, unit
from threadworth.diagrams import FAMILIES, labels
from threadworth.errors import BadNumber, Malformed, NotDiagram, NotFamily, NotNumber, NotWorld
from threadworth.sums import Sum, read_sum, text_of_sum, unit_sum, zero_sum

WORLDS = (
    (0, 0), (0, 1), (0, 2), (0, -1), (0, -20), (0, 20), (2, 0), (2, 1), (3, 2), (5, 0), (7, 3),
    (31, 30),
)
WRONG_WORLDS = ((0, 21), (0, -21), (4, 1), (5, 5), (5, -1), (37, 0), (-2, 0))
WRONG = (1, 1, ((1,), (0,)))
EMPTY = (0, 0, ())
SMALL = {
    (n, m): family_diagrams("parts", n, m) for n, m in sizes_up_to(6)
}


def singles(n, m):
    return (n, m, tuple((k,) for k in range(n + m)))


def drawn(source, n, m):
    """A drawn diagram of any size."""
    return source.choice(SMALL[n, m]) if n + m <= 6 else any_diagram(source, n, m)


def any_sum(source, world, n, m, many=4):
    diagrams = [drawn(source, n, m) for _ in range(many)]
    return Sum(world, n, m, any_terms(source, world, diagrams, many))


def product_by_hand(one, other):
    world = one.world
    pairs = []
    for upper, x in one.terms():
        for lower, y in other.terms():
            loops, made = put_by_hand(upper, lower)
            worth = as_value(world, x) * as_value(world, y) * raised_d(world, loops)
            pairs.append((made, as_number(world, worth)))
    return added_terms(world, pairs)


def worth_by_hand(one):
    world = one.world
    return as_number(world, sum(
        as_value(world, x) * raised_d(world, closing_by_hand(diagram))
        for diagram, x in one.terms()
    ))


class SumTest(unittest.TestCase):

    def assertTerms(self, one, due):
        """Check the terms of a sum against a dict, and their order."""
        terms = one.terms()
        self.assertEqual(dict(terms), due)
        self.assertEqual(len(terms), len(due))
        rows = [labels(diagram) for diagram, _ in terms]
        self.assertEqual(rows, sorted(rows))

    def test_terms_are_added_and_stand_in_order(self):
        source = random.Random(80)
        for world in WORLDS:
            for n, m in ((0, 0), (1, 1), (2, 1), (3, 3), (8, 0), (0, 8), (4, 4)):
                diagrams = [drawn(source, n, m) for _ in range(6)]
                pairs = any_terms(source, world, diagrams, 20)
                with Unchanged(self, pairs):
                    one = Sum(world, n, m, pairs)
                due = added_terms(world, pairs)
                self.assertTerms(one, due)
                self.assertEqual((one.world, one.n, one.m), (world, n, m))
                self.assertEqual(len(one), len(due))
                self.assertIs(bool(one), bool(due))
                source.shuffle(pairs)
                self.assertEqual(Sum(world, n, m, pairs), one)
                for diagram in diagrams:
                    self.assertEqual(one.at(diagram), due.get(diagram, (0, 1)))

    def test_terms_that_cancel_or_are_0(self):
        one = Sum((0, 2), 1, 1, [(unit(1), (1, 2)), (cut(1, 0), (0, 1)), (unit(1), (-1, 2))])
        self.assertEqual(one.terms(), [])
        self.assertEqual(one, zero_sum((0, 2), 1, 1))
        self.assertIs(bool(one), False)
        self.assertEqual(len(one), 0)
        one = Sum((3, 2), 1, 1, [(unit(1), (1, 1))] * 3 + [(cut(1, 0), (2, 1))] * 2)
        self.assertEqual(one.terms(), [(cut(1, 0), (1, 1))])
        self.assertEqual(one.at(unit(1)), (0, 1))
        one = Sum((0, 2), 1, 1, [(unit(1), (1, 3)), (unit(1), (1, 6))])
        self.assertEqual(one.terms(), [(unit(1), (1, 2))])

    def test_the_list_of_terms_is_not_shared(self):
        pairs = [(unit(1), (1, 1))]
        one = Sum((0, 2), 1, 1, pairs)
        pairs.append((cut(1, 0), (1, 1)))
        self.assertEqual(one.terms(), [(unit(1), (1, 1))])
        one.terms().append("x")
        one.terms().clear()
        self.assertEqual(one.terms(), [(unit(1), (1, 1))])

    def test_large_numbers(self):
        big = 10 ** 5000
        one = Sum((0, 2), 1, 1, [(unit(1), (big, 3)), (unit(1), (1, 3))])
        self.assertEqual(one.at(unit(1)), (big + 1, 3) if (big + 1) % 3 else ((big + 1) // 3, 1))
        self.assertEqual((one * one).at(unit(1)), as_number((0, 2), as_value(
            (0, 2), one.at(unit(1))) ** 2))

    def test_sums_that_are_equal(self):
        base = Sum((0, 2), 1, 1, [(unit(1), (1, 1))])
        self.assertIs(base == Sum((0, 2), 1, 1, [(unit(1), (1, 1))]), True)
        for other in (
            Sum((0, 3), 1, 1, [(unit(1), (1, 1))]), Sum((0, 2), 1, 1, [(unit(1), (2, 1))]),
            Sum((0, 2), 1, 1, [(cut(1, 0), (1, 1))]), zero_sum((0, 2), 1, 1),
            Sum((3, 2), 1, 1, [(unit(1), (1, 1))]),
            Sum((0, 2), 1, 1, [(unit(1), (1, 1)), (cut(1, 0), (1, 1))]),
        ):
            self.assertIs(base == other, False)
            self.assertIs(base != other, True)
        self.assertIs(zero_sum((0, 2), 1, 1) == zero_sum((0, 2), 1, 1), True)
        for other in (zero_sum((0, 2), 2, 1), zero_sum((0, 2), 1, 2), zero_sum((0, 1), 1, 1),
                      zero_sum((5, 2), 1, 1)):
            self.assertIs(zero_sum((0, 2), 1, 1) == other, False)

    def test_8_points_and_9(self):
        for n, m in itertools.product(range(-1, 10), repeat=2):
            if n >= 0 and m >= 0 and n + m <= 8:
                self.assertEqual(len(Sum((0, 2), n, m, [(singles(n, m), (1, 1))])), 1)
                self.assertEqual(zero_sum((0, 2), n, m), Sum((0, 2), n, m, []))
            else:
                self.assertRaises(BadNumber, Sum, (0, 2), n, m, [])
                self.assertRaises(BadNumber, Sum, (0, 2), n, m, [(WRONG, (2, 2))])
                self.assertRaises(BadNumber, zero_sum, (0, 2), n, m)
        for n in (-1, 5, 6, 7, 8, 9, 10 ** 40):
            self.assertRaises(BadNumber, unit_sum, (0, 2), n)
            self.assertRaises(BadNumber, zero_sum, (0, 2), n, 9)
        for n in range(5):
            self.assertEqual(unit_sum((0, 2), n).terms(), [(unit(n), (1, 1))])
            self.assertEqual(unit_sum((2, 1), n).terms(), [(unit(n), (1, 1))])

    def test_errors_in_order(self):
        for world in WRONG_WORLDS:
            self.assertRaises(NotWorld, Sum, world, 9, -1, [(WRONG, (2, 2))])
            self.assertRaises(NotWorld, Sum, world, 1, 1, [])
            self.assertRaises(NotWorld, unit_sum, world, 9)
            self.assertRaises(NotWorld, zero_sum, world, 9, 9)
        good, wrong_number = (unit(1), (1, 1)), (unit(1), (2, 2))
        wrong_diagram, other_points = (WRONG, (2, 2)), (unit(2), (2, 2))
        for pairs, error in (
            ([wrong_diagram], NotDiagram), ([other_points], BadNumber),
            ([wrong_number], NotNumber), ([good, wrong_diagram, wrong_number], NotDiagram),
            ([good, other_points, wrong_diagram], BadNumber),
            ([wrong_number, wrong_diagram], NotNumber), ([wrong_number, other_points], NotNumber),
            ([((1, 0, ((0,),)), (1, 1))], BadNumber), ([((0, 1, ((0,),)), (1, 1))], BadNumber),
        ):
            self.assertRaises(error, Sum, (0, 2), 1, 1, pairs)
        for world, x in (
            ((0, 2), (1, 0)), ((0, 2), (1, -1)), ((0, 2), (0, 2)), ((0, 2), (2, 4)),
            ((5, 2), (5, 1)), ((5, 2), (-1, 1)), ((5, 2), (1, 2)),
        ):
            self.assertRaises(NotNumber, Sum, world, 1, 1, [(unit(1), x)])
            self.assertRaises(NotNumber, unit_sum(world, 1).scaled, x)
            self.assertRaises(NotNumber, zero_sum(world, 1, 1).scaled, x)

    def test_at_in_order(self):
        one = unit_sum((0, 2), 1)
        self.assertRaises(NotDiagram, one.at, WRONG)
        self.assertRaises(NotDiagram, one.at, (2, 2, ()))
        for diagram in (unit(2), EMPTY, (1, 2, ((0, 1, 2),))):
            self.assertRaises(BadNumber, one.at, diagram)
        self.assertEqual(one.at(cut(1, 0)), (0, 1))


class AddedTest(unittest.TestCase):

    def test_diagram_by_diagram(self):
        source = random.Random(81)
        for world in WORLDS:
            for n, m in ((0, 0), (1, 1), (1, 2), (3, 1), (2, 6)):
                one = any_sum(source, world, n, m)
                other = any_sum(source, world, n, m)
                x = any_number(source, world)
                before = (one.terms(), other.terms())
                due = added_terms(world, one.terms() + other.terms())
                self.assertEqual(dict((one + other).terms()), due)
                turned = [
                    (diagram, as_number(world, -as_value(world, y))) for diagram, y in other.terms()
                ]
                self.assertEqual((-other).terms(), turned)
                self.assertEqual(
                    dict((one - other).terms()), added_terms(world, one.terms() + turned)
                )
                scaled = [
                    (diagram, as_number(world, as_value(world, x) * as_value(world, y)))
                    for diagram, y in one.terms()
                ]
                self.assertEqual(dict(one.scaled(x).terms()), added_terms(world, scaled))
                self.assertEqual((one.terms(), other.terms()), before)

    def test_what_becomes_0_is_no_term(self):
        one = Sum((0, 2), 1, 1, [(unit(1), (1, 2)), (cut(1, 0), (1, 1))])
        self.assertEqual((one - one).terms(), [])
        self.assertEqual((one + -one).terms(), [])
        self.assertEqual(one.scaled((0, 1)), zero_sum((0, 2), 1, 1))
        other = Sum((0, 2), 1, 1, [(unit(1), (-1, 2))])
        self.assertEqual((one + other).terms(), [(cut(1, 0), (1, 1))])
        for world in ((2, 0), (2, 1)):
            self.assertEqual(len(unit_sum(world, 2) + unit_sum(world, 2)), 0)

    def test_other_worlds_and_points(self):
        one = unit_sum((0, 2), 1)
        for other in (
            unit_sum((0, 1), 1), unit_sum((5, 2), 1), unit_sum((0, 2), 2),
            zero_sum((0, 2), 1, 2), zero_sum((0, 2), 2, 1), zero_sum((0, 2), 0, 1),
        ):
            for left, right in ((one, other), (other, one)):
                with self.assertRaises(BadNumber):
                    left + right
                with self.assertRaises(BadNumber):
                    left - right


class ProductTest(unittest.TestCase):

    def test_each_diagram_above_each_one(self):
        source = random.Random(82)
        for world in WORLDS:
            for n, m, q in ((1, 1, 1), (2, 2, 2), (0, 3, 1), (2, 0, 2), (3, 3, 3), (1, 4, 2),
                            (0, 8, 0), (4, 4, 4), (8, 0, 0), (0, 0, 8)):
                one = any_sum(source, world, n, m)
                other = any_sum(source, world, m, q)
                before = (one.terms(), other.terms())
                made = one * other
                self.assertEqual((made.world, made.n, made.m), (world, n, q))
                self.assertEqual(dict(made.terms()), product_by_hand(one, other))
                self.assertEqual((one.terms(), other.terms()), before)

    def test_three_sums_in_either_way_and_the_unit(self):
        source = random.Random(83)
        for world in WORLDS:
            for n, m, q, r in ((2, 2, 2, 2), (1, 3, 2, 1), (0, 2, 4, 3), (3, 0, 1, 4)):
                one = any_sum(source, world, n, m, 3)
                two = any_sum(source, world, m, q, 3)
                three = any_sum(source, world, q, r, 3)
                self.assertEqual((one * two) * three, one * (two * three))
                self.assertEqual(unit_sum(world, n) * one, one)
                self.assertEqual(one * unit_sum(world, m), one)
                same = any_sum(source, world, m, q, 3)
                self.assertEqual(one * (two + same), one * two + one * same)

    def test_d_is_0(self):
        for world in ((0, 0), (2, 0), (31, 0)):
            one = Sum(world, 1, 1, [(cut(1, 0), (1, 1))])
            self.assertEqual(one * one, zero_sum(world, 1, 1))
            self.assertEqual(unit_sum(world, 0) * unit_sum(world, 0), unit_sum(world, 0))
            self.assertEqual((unit_sum(world, 1) * one).terms(), one.terms())

    def test_loops(self):
        world = (0, 3)
        one = Sum(world, 0, 8, [(singles(0, 8), (1, 2))])
        other = Sum(world, 8, 0, [(singles(8, 0), (2, 5))])
        self.assertEqual((one * other).terms(), [(EMPTY, as_number(world, 3 ** 8) [:1] + (5,))])
        hooks = Sum(world, 2, 2, [(hook(2, 0), (1, 1))])
        self.assertEqual(hooks * hooks, hooks.scaled((3, 1)))

    def test_errors(self):
        one = unit_sum((0, 2), 1)
        for other in (unit_sum((0, 1), 1), unit_sum((5, 2), 1), unit_sum((0, 2), 2),
                      zero_sum((0, 2), 2, 1), zero_sum((0, 2), 0, 1)):
            with self.assertRaises(BadNumber):
                one * other
        for upper, lower in (((8, 0), (0, 8)), ((8, 0), (0, 1)), ((5, 0), (0, 4)),
                             ((4, 1), (1, 5)), ((7, 1), (1, 7))):
            with self.assertRaises(BadNumber):
                zero_sum((0, 2), *upper) * zero_sum((0, 2), *lower)
        for n, m in ((8, 8), (8, 1), (5, 4), (6, 7)):
            upper = Sum((0, 2), n, 0, [(singles(n, 0), (1, 1))])
            lower = Sum((0, 2), 0, m, [(singles(0, m), (1, 1))])
            with self.assertRaises(BadNumber):
                upper * lower
        made = zero_sum((0, 2), 5, 0) * zero_sum((0, 2), 0, 3)
        self.assertEqual(made, zero_sum((0, 2), 5, 3))


class BesideTest(unittest.TestCase):

    def beside_by_hand(self, one, other):
        pairs = []
        for left, x in one.terms():
            for right, y in other.terms():
                names = [("l", k) for k in range(one.n)] + [("r", k) for k in range(other.n)]
                names += [("l", one.n + k) for k in range(one.m)]
                names += [("r", other.n + k) for k in range(other.m)]
                blocks = [
                    tuple(sorted(names.index((name, point)) for point in block))
                    for name, diagram in (("l", left), ("r", right)) for block in diagram[2]
                ]
                made = (one.n + other.n, one.m + other.m, tuple(sorted(blocks)))
                worth = as_value(one.world, x) * as_value(one.world, y)
                pairs.append((made, as_number(one.world, worth)))
        return added_terms(one.world, pairs)

    def test_beside(self):
        source = random.Random(84)
        for world in WORLDS:
            for n, m, q, r in ((1, 1, 1, 1), (0, 0, 2, 2), (2, 1, 0, 3), (4, 0, 0, 4),
                               (2, 2, 2, 2), (8, 0, 0, 0)):
                one = any_sum(source, world, n, m)
                other = any_sum(source, world, q, r)
                before = (one.terms(), other.terms())
                made = one.beside(other)
                self.assertEqual((made.world, made.n, made.m), (world, n + q, m + r))
                self.assertEqual(dict(made.terms()), self.beside_by_hand(one, other))
                self.assertEqual((one.terms(), other.terms()), before)

    def test_the_other_one_is_to_the_right(self):
        made = Sum((0, 2), 1, 1, [(cut(1, 0), (2, 1))]).beside(unit_sum((0, 2), 1))
        self.assertEqual(made.terms(), [(cut(2, 0), (2, 1))])

    def test_beside_errors(self):
        one = unit_sum((0, 2), 2)
        for other in (unit_sum((0, 1), 1), unit_sum((5, 2), 1), unit_sum((0, 2), 3),
                      zero_sum((0, 2), 5, 0), zero_sum((0, 2), 0, 5)):
            self.assertRaises(BadNumber, one.beside, other)
            self.assertRaises(BadNumber, other.beside, one)
        for n, m in ((8, 8), (8, 1), (5, 4)):
            left = Sum((0, 2), n, 0, [(singles(n, 0), (1, 1))])
            self.assertRaises(BadNumber, left.beside, Sum((0, 2), m, 0, [(singles(m, 0), (1, 1))]))
            self.assertRaises(BadNumber, left.beside, Sum((0, 2), 0, m, [(singles(0, m), (1, 1))]))
        self.assertEqual(one.beside(zero_sum((0, 2), 4, 0)), zero_sum((0, 2), 6, 2))

    def test_over(self):
        source = random.Random(85)
        for world in WORLDS:
            for n, m in ((0, 0), (1, 2), (3, 3), (8, 0), (2, 5)):
                one = any_sum(source, world, n, m)
                due = {}
                for diagram, x in one.terms():
                    turned = [
                        tuple(sorted(p + m if p < n else p - n for p in block))
                        for block in diagram[2]
                    ]
                    due[(m, n, tuple(sorted(turned)))] = x
                made = one.over()
                self.assertEqual((made.n, made.m), (m, n))
                self.assertEqual(dict(made.terms()), due)
                self.assertEqual(made.over(), one)


class WorthTest(unittest.TestCase):

    def test_worths(self):
        source = random.Random(86)
        for world in WORLDS:
            for n in range(5):
                one = any_sum(source, world, n, n, 5)
                self.assertEqual(one.worth(), worth_by_hand(one))
                self.assertEqual(unit_sum(world, n).worth(), as_number(world, raised_d(world, n)))
                self.assertEqual(zero_sum(world, n, n).worth(), (0, 1))

    def test_0_raised_to_0_is_1(self):
        for world in ((0, 0), (2, 0), (7, 0)):
            self.assertEqual(unit_sum(world, 0).worth(), (1, 1))
            self.assertEqual(unit_sum(world, 0).scaled(as_number(world, -1)).worth(),
                             as_number(world, -1))
            for n in range(1, 5):
                self.assertEqual(unit_sum(world, n).worth(), (0, 1))

    def test_other_numbers_of_points(self):
        for n, m in ((0, 1), (1, 0), (2, 3), (8, 0)):
            self.assertRaises(BadNumber, zero_sum((0, 2), n, m).worth)

    def test_worths_of_products_beside_and_over(self):
        source = random.Random(87)
        for world in WORLDS:
            for n, m in ((1, 1), (2, 2), (1, 3), (4, 4), (0, 4), (3, 2)):
                one = any_sum(source, world, n, m)
                other = any_sum(source, world, m, n)
                self.assertEqual((one * other).worth(), (other * one).worth())
                self.assertEqual((one * other).over(), other.over() * one.over())
                self.assertEqual((one * other).over().worth(), (one * other).worth())
            for n, m in ((1, 1), (2, 2), (0, 3), (3, 1)):
                one = any_sum(source, world, n, n)
                other = any_sum(source, world, m, m)
                both = as_value(world, one.worth()) * as_value(world, other.worth())
                self.assertEqual(one.beside(other).worth(), as_number(world, both))

    def test_beside_multiplied(self):
        source = random.Random(88)
        for world in WORLDS:
            for n, m, q, r, s, t in ((1, 1, 1, 1, 1, 1), (2, 1, 2, 1, 2, 1), (0, 2, 1, 3, 1, 0)):
                a, a2 = any_sum(source, world, n, m, 3), any_sum(source, world, m, q, 3)
                b, b2 = any_sum(source, world, r, s, 3), any_sum(source, world, s, t, 3)
                self.assertEqual(a.beside(b) * a2.beside(b2), (a * a2).beside(b * b2))

    def test_example(self):
        one = Sum((0, 2), 1, 1, [(unit(1), (1, 1)), (cut(1, 0), (-1, 2))])
        self.assertEqual(text_of_sum(one), "0 2 1 1 1 a|a -1/2 a|b")
        self.assertEqual(one * one, one)
        self.assertEqual(one.worth(), (1, 1))


class FamilyTest(unittest.TestCase):

    def test_is_in(self):
        source = random.Random(89)
        for family in FAMILIES:
            self.assertIs(zero_sum((0, 2), 1, 0).is_in(family), True)
            for _ in range(60):
                n, m = source.choice([(1, 1), (2, 2), (1, 3), (0, 2), (3, 3)])
                one = any_sum(source, (0, 2), n, m, 2)
                due = all(family_test(family, n, diagram[2]) for diagram, _ in one.terms())
                self.assertIs(one.is_in(family), due)
        mixed = Sum((0, 2), 2, 2, [(swap(2, 0), (1, 1)), (bridge(2, 0), (1, 1))])
        self.assertEqual([mixed.is_in(family) for family in FAMILIES], [False] * 4 + [True] * 2)

    def test_no_family(self):
        for one in (unit_sum((0, 2), 1), zero_sum((0, 2), 1, 0)):
            self.assertRaises(NotFamily, one.is_in, "thread")
            self.assertRaises(NotFamily, one.is_in, "")

    def test_sums_in_a_family_give_sums_in_it(self):
        source = random.Random(90)
        for family, world in itertools.product(FAMILIES, ((0, 2), (3, 1))):
            diagrams = family_diagrams(family, 2, 2)
            one = Sum(world, 2, 2, any_terms(source, world, diagrams, 5))
            other = Sum(world, 2, 2, any_terms(source, world, diagrams, 5))
            for made in (one + other, one - other, -one, one * other, one.beside(other),
                         one.over(), one.scaled((1, 1))):
                self.assertIs(made.is_in(family), True)


class TextTest(unittest.TestCase):

    def test_texts_are_read_back(self):
        source = random.Random(91)
        for world in WORLDS:
            for n, m in ((0, 0), (1, 1), (2, 1), (0, 8), (3, 3)):
                one = any_sum(source, world, n, m, 6)
                text = text_of_sum(one)
                self.assertEqual(text.split(" ")[:4], [str(k) for k in (*world, n, m)])
                self.assertEqual(len(text.split(" ")), 4 + 2 * len(one))
                self.assertEqual(read_sum(text), one)
                self.assertEqual(text_of_sum(read_sum(text)), text)

    def test_some_written_out(self):
        self.assertEqual(text_of_sum(zero_sum((0, -20), 3, 5)), "0 -20 3 5")
        self.assertEqual(text_of_sum(unit_sum((31, 30), 0)), "31 30 0 0 1 |")
        self.assertEqual(read_sum("31 30 0 0 7 |").terms(), [(EMPTY, (7, 1))])
        self.assertEqual(read_sum("0 -20 3 5"), zero_sum((0, -20), 3, 5))
        self.assertEqual(
            read_sum("0 2 1 1 1 a|a -1/2 a|b").terms(), [(unit(1), (1, 1)), (cut(1, 0), (-1, 2))]
        )

    def test_numbers_of_any_length(self):
        for figures in (60, 61, 4000, 9000):
            one = Sum((0, 2), 1, 1, [
                (unit(1), (-10 ** figures - 1, 1)), (cut(1, 0), (1, 10 ** figures + 3)),
            ])
            text = text_of_sum(one)
            self.assertEqual(len(text), 4 * 2 + len("- a|a 1/ a|b") + 2 * (figures + 1))
            self.assertEqual(read_sum(text), one)

    def wrong(self, text, at):
        with self.assertRaises(Malformed) as caught:
            read_sum(text)
        self.assertEqual(caught.exception.at, at, text[:80])

    def test_cut_off_at_each_word(self):
        words = "0 2 1 1 1 a|a -1/2 a|b".split(" ")
        for size in range(1, len(words)):
            text = " ".join(words[:size])
            if size in (4, 6):
                self.assertEqual(len(read_sum(text)), (size - 4) // 2)
            else:
                self.wrong(text, size)

    def test_a_wrong_word_at_each_place(self):
        words = "0 2 1 1 1 a|a -1/2 a|b".split(" ")
        wrong = {
            0: ("1", "4", "-2", "00", "02", "+2", "-0", "37", "x", "", "2.0", "1" * 5000),
            1: ("21", "-21", "02", "+2", "-0", "x", "", "2/1", "a|a", "9" * 5000),
            2: ("9", "-1", "01", "x", "", "+1", "10", "1" * 5000),
            3: ("8", "-1", "01", "x", "", "9"),
            4: ("0", "1/1", "2/4", "-0", "+1", "01", "", "x", "a|a", "1/0", "1/-2", "0/1", "--1",
                "1/", "/2", "1/2/3"),
            5: ("", "a|", "|a", "b|a", "aa|a", "a|c", "a|a|", "1", "a", "ab|ab"),
            6: ("0", "2/4", "", "a|b"),
            7: ("a|a", "", "-1/2", "aa|bb", "a|c"),
        }
        for at, others in wrong.items():
            for word in others:
                self.wrong(" ".join(words[:at] + [word] + words[at + 1:]), at)
                self.wrong(" ".join(words[:at] + [word]), at)
                # A later word that is wrong, too, is not told.
                self.wrong(" ".join(words[:at] + [word] + ["?"] * (8 - at)), at)

    def test_worlds_of_rests(self):
        self.wrong("5 5 1 1", 1)
        self.wrong("5 -1 1 1", 1)
        self.wrong("2 2 1 1", 1)
        self.wrong("5 2 1 1 5 a|a", 4)
        self.wrong("5 2 1 1 -1 a|a", 4)
        self.wrong("5 2 1 1 1/2 a|a", 4)
        self.assertEqual(read_sum("5 4 1 1 4 a|a").terms(), [(unit(1), (4, 1))])

    def test_points(self):
        for n in range(9):
            for m in range(10):
                if n + m <= 8:
                    self.assertEqual(read_sum(f"0 2 {n} {m}"), zero_sum((0, 2), n, m))
                else:
                    self.wrong(f"0 2 {n} {m}", 3)

    def test_diagrams_that_do_not_ascend(self):
        self.wrong("0 2 1 1 1 a|b 1 a|a", 7)
        self.wrong("0 2 1 1 1 a|a 1 a|a", 7)
        self.wrong("0 2 2 0 1 ab| 1 ab|", 7)
        self.wrong("0 2 2 1 1 aa|a 1 ab|a 2 aa|b 1 ab|c", 9)
        self.assertEqual(len(read_sum("0 2 2 1 1 aa|a 1 aa|b 2 ab|b 1 ab|c")), 4)

    def test_spaces(self):
        self.wrong("", 0)
        self.wrong(" ", 0)
        self.wrong(" 0 2 1 1", 0)
        self.wrong("0  2 1 1", 1)
        self.wrong("0 2 1 1 ", 4)
        self.wrong("0 2 1 1 1 a|a ", 6)
        self.wrong("0 2 1 1  1 a|a", 4)
        self.wrong("0 2 1 1\n", 3)
        self.wrong("0\t2 1 1", 0)
