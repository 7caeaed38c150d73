"""Points [240] to [247]: the checker."""

import itertools
import random
import unittest

from tests.helpers import (
    Unchanged, any_diagram, any_number, any_terms, any_word, as_number, as_rest,
    as_value, closing_by_hand, family_diagrams, put_by_hand, raised_d, word_by_hand,
)
from tests.test_moves import RULES, all_steps, any_chain, shifted, step_by_hand
from threadworth.alike import decide, is_answer, is_lost, lost_basis, worths_of
from threadworth.basics import bridge, cut, hook, swap, unit
from threadworth.certificates import (
    diagram_told, has_no_colours, is_chain, is_told_clash, is_told_determinant, is_told_lost,
    is_told_solution, shown, worths_told,
)
from threadworth.colours import is_without_colours
from threadworth.diagrams import FAMILIES, counted, listed
from threadworth.errors import (
    BadNumber, NotDiagram, NotFamily, NotNumber, NotWorld, TooLarge,
)
from threadworth.linear import clash, kernel, poly_determinant, solution
from threadworth.moves import undone, walked
from threadworth.polys import added, value_at
from threadworth.sums import Sum
from threadworth.tables import closings
from threadworth.words import diagram_of, letters

WORLDS = ((0, 2), (0, 0), (0, 1), (0, -3), (0, 20), (2, 0), (2, 1), (3, 2), (7, 5), (31, 30))
WRONG_WORLDS = ((0, 21), (0, -21), (4, 1), (5, 5), (5, -1), (37, 0), (-2, 0), (1, 0))
SIZES = ((0, 0), (1, 0), (1, 1), (2, 1), (0, 3), (2, 2), (1, 3))
WRONG = (1, 1, ((1,), (0,)))
NO_DIAGRAMS = (
    WRONG, (1, 1, ((0, 1), ())), (1, 1, ((0,),)), (1, 1, ((0,), (0, 1))), (1, 1, ((1, 0),)),
    (1, 1, ((0,), (2,))), (1, 1, ((-1, 0, 1),)), (1, 1, ()), (1, 1, ((0, 1), (0, 1))),
    unit(2), cut(2, 0), (1, 0, ((0,),)), (0, 1, ((0,),)), (2, 0, ((0, 1),)), (9, 9, ()),
    (-1, 3, ((0,), (1,))), (10 ** 40, 1, ((0, 1),)),
)
NO_NUMBERS = {
    (0, 2): ((1, 0), (1, -1), (0, 2), (2, 4), (0, 0), (-3, 6)),
    (5, 2): ((5, 1), (-1, 1), (1, 2), (0, 0), (7, 1)),
}
NULL = (0, 1)
ONE = (1, 1)
HUGE = 10 ** 40


def any_pairs(source, world, family, n, m, many=4):
    """Terms in any order: some told twice, some with the number 0."""
    diagrams = listed(family, n, m)
    pairs = any_terms(source, world, diagrams, many)
    if diagrams:
        again = source.choice(diagrams)
        pairs += [(again, any_number(source, world)), (again, NULL), (again, ONE)]
    source.shuffle(pairs)
    return pairs


def worths_by_hand(world, family, n, m, pairs):
    found = []
    for c in family_diagrams(family, m, n):
        total = 0
        for diagram, x in pairs:
            loops, made = put_by_hand(diagram, c)
            total += as_value(world, x) * raised_d(world, loops + closing_by_hand(made))
        found.append(as_number(world, as_rest(world[0], total)))
    return found


def moved_answers(answer, worths):
    """Answers that are near to a right list of worths, and are wrong."""
    found = [("alike", worths + [NULL]), ("alike", [ONE] + worths), ("apart", worths)]
    if worths:
        for k in (0, len(worths) - 1):
            other = list(worths)
            other[k] = ONE if worths[k] != ONE else NULL
            found.append(("alike", other))
        found += [("alike", worths[:-1]), ("alike", [(2 * a, 2 * b) for a, b in worths])]
    kind, told = answer
    found += [(name, told) for name in ("", "none", "like", "Alike", "alike ", "aparta")]
    found += [("alike", tuple(worths))] if kind == "alike" else [("alike", told)]
    return found


class WorthsTest(unittest.TestCase):

    def test_worths(self):
        source = random.Random(240)
        for family, world in itertools.product(FAMILIES, WORLDS):
            for n, m in SIZES:
                pairs = any_pairs(source, world, family, n, m)
                due = worths_by_hand(world, family, n, m, pairs)
                with Unchanged(self, pairs):
                    found = worths_told(world, family, n, m, pairs)
                self.assertEqual(found, due)
                self.assertIs(
                    is_told_lost(world, family, n, m, pairs), all(x == NULL for x in due)
                )
                one = Sum(world, n, m, pairs)
                self.assertEqual(found, worths_of(one, family))
                self.assertEqual(found, worths_told(world, family, n, m, one.terms()))
                found.append("x")
                self.assertEqual(worths_told(world, family, n, m, pairs), due)

    def test_lost_sums(self):
        for family, world in itertools.product(FAMILIES, WORLDS):
            for n, m in ((1, 1), (2, 2), (1, 2)):
                for one in lost_basis(world, family, n, m)[:3]:
                    self.assertIs(is_told_lost(world, family, n, m, one.terms()), True)
                for diagram in listed(family, n, m)[:3]:
                    pairs = [(diagram, ONE)]
                    lost = is_lost(Sum(world, n, m, pairs), family)
                    self.assertIs(is_told_lost(world, family, n, m, pairs), lost)
                    twice = [(diagram, ONE), (diagram, as_number(world, -1))]
                    self.assertIs(is_told_lost(world, family, n, m, twice), True)

    def test_the_order_of_the_diagrams_from_m_to_n(self):
        # 232 lonepairs from 3 to 4, 209 loose ones from 4 to 4, 203 parts of 6 points.
        source = random.Random(241)
        for family, n, m in (
            ("lonepairs", 3, 4), ("loose", 4, 4), ("pairs", 5, 3), ("parts", 2, 4), ("even", 5, 1),
            ("threads", 4, 4), ("loose", 2, 6), ("parts", 0, 6),
        ):
            self.assertLessEqual(counted(family, n, m), 250)
            pairs = any_pairs(source, (0, 2), family, n, m)
            found = worths_told((0, 2), family, n, m, pairs)
            self.assertEqual(found, worths_of(Sum((0, 2), n, m, pairs), family))
            self.assertEqual(len(found), counted(family, n, m))

    def test_all_worlds(self):
        pairs = [(unit(1), ONE), (cut(1, 0), ONE)]
        for p in range(-3, 70):
            for d in range(-22, 70):
                prime = 1 < p <= 31 and all(p % k for k in range(2, p))
                if (p == 0 and -20 <= d <= 20) or (prime and 0 <= d < p):
                    due = [as_number((p, d), as_rest(p, k)) for k in (2 * d, d + d * d)]
                    self.assertEqual(worths_told((p, d), "loose", 1, 1, pairs), due)
                else:
                    self.assertRaises(NotWorld, worths_told, (p, d), "loose", 1, 1, pairs)

    def test_large_numbers_and_no_terms(self):
        big = 10 ** 1500
        pairs = [(unit(1), (big, 3)), (unit(1), (1, 3)), (cut(1, 0), (-1, 1))]
        self.assertEqual(
            worths_told((0, 3), "loose", 1, 1, pairs), [(big - 2, 1), (big + 1 - 9, 1)]
        )
        self.assertEqual(worths_told((0, 3), "loose", 1, 1, []), [NULL, NULL])
        self.assertEqual(worths_told((0, 3), "pairs", 1, 2, []), [])
        self.assertIs(is_told_lost((0, 3), "threads", 1, 2, []), True)

    def test_example(self):
        pairs = [(swap(2, 0), (1, 1)), (unit(2), (-1, 1))]
        self.assertEqual(worths_told((0, 1), "threads", 2, 2, pairs), [NULL, NULL])
        self.assertIs(is_told_lost((0, 1), "threads", 2, 2, pairs), True)
        self.assertIs(has_no_colours(1, 2, 2, pairs), True)


class ErrorsTest(unittest.TestCase):

    CALLS = (
        worths_told, is_told_lost,
        lambda *told: shown(*told, [], ("alike", [])),
        lambda *told: shown(*told[:4], [], told[4], ("apart", unit(1))),
    )

    def check(self, error, *told):
        for call in self.CALLS:
            self.assertRaises(error, call, *told)

    def test_errors_in_order(self):
        wrong = [(WRONG, (2, 2))]
        for world in WRONG_WORLDS:
            self.check(NotWorld, world, "part", -1, 9, wrong)
        for family in ("part", "", "Threads"):
            self.check(NotFamily, (0, 2), family, -1, 9, wrong)
        for n, m in ((-1, 0), (0, -1), (9, 0), (0, 9), (5, 4), (HUGE, -HUGE), (-1, 9)):
            self.check(BadNumber, (0, 2), "parts", n, m, wrong)
        for diagram in NO_DIAGRAMS:
            self.check(NotDiagram, (0, 2), "threads", 1, 1, [(diagram, (2, 2))])
            self.check(NotDiagram, (0, 2), "parts", 1, 1, [(unit(1), ONE), (diagram, ONE)])
        for world, numbers in NO_NUMBERS.items():
            for x in numbers:
                self.check(NotNumber, world, "parts", 1, 1, [(unit(1), x)])
                self.check(NotNumber, world, "threads", 1, 1, [(cut(1, 0), ONE), (unit(1), x)])
                self.check(NotNumber, world, "parts", 1, 1, [(unit(1), x), (WRONG, ONE)])
        self.check(NotDiagram, (0, 2), "parts", 1, 1, [(WRONG, ONE), (unit(1), (2, 2))])

    def test_the_family_behind_the_terms(self):
        for family, diagram in (
            ("threads", cut(2, 0)), ("threads", hook(2, 0)), ("loose", hook(2, 0)),
            ("loose", bridge(2, 0)), ("pairs", cut(2, 0)), ("lonepairs", bridge(2, 0)),
            ("even", cut(2, 0)), ("threads", bridge(2, 0)), ("pairs", bridge(2, 0)),
        ):
            for x in (ONE, NULL, (-1, 2)):
                self.check(BadNumber, (0, 2), family, 2, 2, [(unit(2), ONE), (diagram, x)])
        # Not in the family, and besides too many in the family.
        many = (4, 4, (tuple(range(8)),))
        self.check(BadNumber, (0, 2), "lonepairs", 4, 4, [(many, ONE)])
        self.check(TooLarge, (0, 2), "lonepairs", 4, 4, [(unit(4), ONE)])

    def test_the_first_wrong_term_of_both_lists(self):
        good, bad = [(unit(1), ONE)], [(unit(1), (2, 2))]
        told = ("alike", [])
        self.assertRaises(NotNumber, shown, (0, 2), "parts", 1, 1, bad, [(WRONG, ONE)], told)
        self.assertRaises(NotDiagram, shown, (0, 2), "parts", 1, 1, [(WRONG, ONE)], bad, told)
        self.assertRaises(NotNumber, shown, (0, 2), "threads", 1, 1, [(cut(1, 0), ONE)], bad, told)
        self.assertRaises(BadNumber, shown, (0, 2), "threads", 1, 1, [(cut(1, 0), ONE)], good, told)
        self.assertRaises(BadNumber, shown, (0, 2), "threads", 1, 1, good, [(cut(1, 0), ONE)], told)

    def test_250_diagrams_and_more(self):
        for family in FAMILIES:
            for n, m in itertools.product(range(9), repeat=2):
                if n + m in (6, 7, 8) and n <= m:
                    if counted(family, m, n) > 250:
                        self.check(TooLarge, (0, 2), family, n, m, [])
                    else:
                        found = worths_told((5, 2), family, n, m, [])
                        self.assertEqual(found, [NULL] * counted(family, n, m))


class ShownTest(unittest.TestCase):

    def check(self, world, family, n, m, pairs, others):
        one, other = Sum(world, n, m, pairs), Sum(world, n, m, others)
        answer = decide(one, other, family)
        with Unchanged(self, pairs, others, answer):
            self.assertEqual(shown(world, family, n, m, pairs, others, answer), answer[0])
        worths = worths_of(one, family)
        for forged in moved_answers(answer, worths):
            due = "none"
            if is_answer(one, other, family, forged):
                due = forged[0]
            self.assertNotEqual((due, answer[0]), ("alike", "apart"))
            self.assertEqual(shown(world, family, n, m, pairs, others, forged), due)
        for c, first, second in zip(listed(family, m, n), worths, worths_of(other, family)):
            due = "apart" if first != second else "none"
            self.assertEqual(shown(world, family, n, m, pairs, others, ("apart", c)), due)
        return answer[0]

    def test_answers_and_forged_ones(self):
        source = random.Random(242)
        seen = {"alike": 0, "apart": 0}
        for family, world in itertools.product(FAMILIES, WORLDS):
            for n, m in SIZES:
                pairs = any_pairs(source, world, family, n, m)
                tried = [any_pairs(source, world, family, n, m), pairs[::-1]]
                basis = lost_basis(world, family, n, m)
                if basis:
                    tried.append(pairs + source.choice(basis).terms())
                for others in tried:
                    seen[self.check(world, family, n, m, pairs, others)] += 1
        self.assertGreater(min(seen.values()), 200)

    def test_never_alike_and_apart(self):
        # [242]
        world, family = (3, 2), "loose"
        pairs = [(unit(2), ONE)]
        for others in ([(cut(2, 0), ONE)], [(unit(2), ONE)], [(swap(2, 0), (2, 1)), (unit(2), ONE)]):
            lists = [
                worths_told(world, family, 2, 2, terms) for terms in (pairs, others, pairs + others)
            ]
            answers = [("alike", told) for told in lists]
            answers += [("apart", c) for c in listed("parts", 2, 2)]
            found = [shown(world, family, 2, 2, pairs, others, answer) for answer in answers]
            self.assertFalse("alike" in found and "apart" in found)
            self.assertTrue("alike" in found or "apart" in found)

    def test_the_diagram_of_an_answer(self):
        world, pairs, others = (0, 2), [(unit(1), ONE)], [(cut(1, 0), ONE)]
        told = ("apart", cut(1, 0))
        self.assertEqual(shown(world, "parts", 1, 1, pairs, others, told), "apart")
        self.assertEqual(shown(world, "parts", 1, 1, pairs, others, ("apart", unit(1))), "none")
        for diagram in NO_DIAGRAMS + ((), (1, 1), (1, 1, ((0, 1),), 1)):
            told = ("apart", diagram)
            self.assertEqual(shown(world, "parts", 1, 1, pairs, others, told), "none")
        for told in (("apart", [1, 1, ((0, 1),)]), ("apart", []), ("alike", ()), ("alike", unit(1))):
            self.assertEqual(shown(world, "parts", 1, 1, pairs, others, told), "none")
        # It is one from m to n, and one of the family.
        above = [((2, 0, ((0, 1),)), ONE)]
        for diagram, due in (
            ((0, 2, ((0, 1),)), "apart"), ((2, 0, ((0, 1),)), "none"), ((0, 2, ((0,), (1,))), "none"),
        ):
            self.assertEqual(shown(world, "pairs", 2, 0, above, [], ("apart", diagram)), due)
        self.assertEqual(
            shown(world, "lonepairs", 2, 0, above, [], ("apart", (0, 2, ((0,), (1,))))), "apart"
        )


class ColoursTest(unittest.TestCase):

    def test_against_tables(self):
        source = random.Random(243)
        seen = {True: 0, False: 0}
        for d in range(1, 5):
            for family in FAMILIES:
                for n, m in SIZES:
                    basis = lost_basis((0, d), family, n, m)[:2]
                    tried = [any_pairs(source, (0, d), family, n, m), []]
                    tried += [one.terms() for one in basis]
                    tried += [one.scaled((-2, 7)).terms()[::-1] for one in basis]
                    for pairs in tried:
                        due = is_without_colours(Sum((0, d), n, m, pairs))
                        with Unchanged(self, pairs):
                            self.assertIs(has_no_colours(d, n, m, pairs), due)
                        seen[due] += 1
                        # [243], and by [163] the other way round.
                        if n + m <= 3:
                            lost = is_told_lost((0, d), "parts", n, m, pairs)
                            self.assertIs(lost, due)
                        self.assertIs(is_told_lost((0, d), family, n, m, pairs), due)
        self.assertGreater(min(seen.values()), 100)

    def test_entries_that_are_0_in_all_alone(self):
        # With these numbers all entries together have the sum 0.
        for d in range(1, 5):
            for n, m in ((1, 1), (2, 0), (0, 2), (2, 1), (1, 3)):
                diagrams = family_diagrams("parts", n, m)
                for one, other in itertools.combinations(diagrams, 2):
                    pairs = [(one, (d ** len(other[2]), 1)), (other, (-d ** len(one[2]), 1))]
                    self.assertIs(has_no_colours(d, n, m, pairs), d == 1)

    def test_4096_entries_and_more(self):
        for d, points in ((1, 8), (2, 8), (3, 7), (4, 6)):
            for n in (0, 3, points):
                lost = any_diagram(random.Random(n), n, points - n)
                pairs = [(lost, ONE), (lost, (-1, 1))]
                self.assertIs(has_no_colours(d, n, points - n, pairs), True)
                self.assertIs(has_no_colours(d, n, points - n, pairs[:1]), False)
        for d, points in ((3, 8), (4, 7), (4, 8)):
            for n in (0, 3, points):
                self.assertRaises(TooLarge, has_no_colours, d, n, points - n, [])
        self.assertRaises(NotDiagram, has_no_colours, 4, 4, 4, [(WRONG, (2, 2))])
        self.assertRaises(NotNumber, has_no_colours, 4, 4, 4, [(unit(4), (2, 2))])
        self.assertRaises(BadNumber, has_no_colours, 4, 5, 4, [])

    def test_all_parts_of_8_points(self):
        pairs = [(diagram, (k + 1, 1)) for k, diagram in enumerate(family_diagrams("parts", 5, 3))]
        self.assertIs(has_no_colours(2, 5, 3, pairs), False)
        pairs += [(diagram, (-a, b)) for diagram, (a, b) in pairs]
        self.assertIs(has_no_colours(2, 5, 3, pairs), True)

    def test_errors_in_order(self):
        for d in (0, 5, -1, HUGE):
            self.assertRaises(BadNumber, has_no_colours, d, 1, 1, [(WRONG, (2, 2))])
        for n, m in ((-1, 0), (0, -1), (9, 0), (4, 5), (HUGE, 0)):
            self.assertRaises(BadNumber, has_no_colours, 2, n, m, [(WRONG, (2, 2))])
        for diagram in NO_DIAGRAMS:
            self.assertRaises(NotDiagram, has_no_colours, 2, 1, 1, [(diagram, (2, 2))])
        for x in NO_NUMBERS[0, 2]:
            self.assertRaises(NotNumber, has_no_colours, 2, 1, 1, [(cut(1, 0), x), (WRONG, ONE)])
        # No family is asked for.
        self.assertIs(has_no_colours(1, 1, 1, [(cut(1, 0), ONE), (unit(1), (-1, 1))]), True)
        self.assertIs(has_no_colours(2, 1, 1, [(cut(1, 0), ONE), (unit(1), (-1, 1))]), False)


class WordsTest(unittest.TestCase):

    def test_diagrams_of_words(self):
        source = random.Random(244)
        for family in FAMILIES:
            for n in range(7):
                for size in (0, 1, 2, 5, 12, 60):
                    told = any_word(source, family, n, size)
                    self.assertEqual(diagram_told(n, told), diagram_of(n, told))
        for n in range(7):
            self.assertEqual(diagram_told(n, ()), (0, unit(n)))
            for letter in letters("parts", n):
                self.assertEqual(diagram_told(n, (letter,)), word_by_hand(n, (letter,)))
        self.assertEqual(diagram_told(2, (("e", 0), ("s", 0), ("e", 0))), (1, hook(2, 0)))
        self.assertEqual(diagram_told(1, (("p", 0),) * 60), (59, cut(1, 0)))

    def test_tuples_that_are_no_words(self):
        for n, told in (
            (2, (("e", 1),)), (2, (("e", -1),)), (2, (("p", 2),)), (2, (("p", -1),)), (0, (("p", 0),)),
            (1, (("s", 0),)), (2, (("s", 0), ("x", 0))), (2, (("", 0),)), (2, (("se", 0),)),
            (2, (("S", 0),)), (3, (("b", HUGE),)), (6, (("s", 5),)), (1, (("p", 0),) * 61),
            (3, (("s", 0),) * 10 ** 5), (2, (("sepb", 0),)),
        ):
            self.assertIs(diagram_told(n, told), None)
            self.assertIs(is_chain(n, told, told, [], 0), False)
            self.assertIs(is_chain(n, told, (), [], 0), False)
            self.assertIs(is_chain(n, (), told, [], 0), False)
        for n in (-1, 7, HUGE):
            self.assertRaises(BadNumber, diagram_told, n, ())
            self.assertRaises(BadNumber, diagram_told, n, (("x", 9),))
            self.assertRaises(BadNumber, is_chain, n, (), (), [], 0)
            self.assertRaises(BadNumber, is_chain, n, (("x", 9),), (), [("rule", 99, 0, 0)], 0)


class ChainsTest(unittest.TestCase):

    def test_drawn_chains(self):
        source = random.Random(245)
        for family in FAMILIES:
            for n in (1, 2, 3, 4, 6):
                start = any_word(source, family, n, 6)
                chain = any_chain(source, n, start, 6)
                end, taken = walked(n, start, chain)
                with Unchanged(self, chain):
                    self.assertIs(is_chain(n, start, end, chain, taken), True)
                back = undone(n, start, chain)
                self.assertIs(is_chain(n, end, start, back, -taken), True)
                for wrong in (taken + 1, taken - 1, HUGE, -HUGE):
                    self.assertIs(is_chain(n, start, end, chain, wrong), False)
                # [244]: what is taken keeps the diagram, with so many loops less.
                first, before = diagram_told(n, start)
                second, after = diagram_told(n, end)
                self.assertEqual((before, first - taken), (after, second))
                other = end + (("p", 0),) if len(end) < 60 else end[:-1]
                self.assertIs(is_chain(n, start, other, chain, taken), False)
                if chain and end != start:
                    self.assertIs(is_chain(n, start, start, chain, taken), False)

    def test_each_rule(self):
        for number, (left, right, loops) in enumerate(RULES):
            for i in range(6):
                n = 6
                one, other = shifted(left, i), shifted(right, i)
                fit = all(k < (n if kind == "p" else n - 1) for kind, k in one + other)
                step, back = ("rule", number, 0, i), ("back", number, 0, i)
                if fit:
                    self.assertIs(is_chain(n, one, other, [step], loops), True)
                    self.assertIs(is_chain(n, other, one, [back], -loops), True)
                    self.assertIs(is_chain(n, one, other, [step], loops + 1), False)
                    self.assertIs(is_chain(n, one, one, [step, back], 0), True)
                    beside = (("p", 0),) + one + (("p", 5),)
                    made = (("p", 0),) + other + (("p", 5),)
                    self.assertIs(is_chain(n, beside, made, [("rule", number, 1, i)], loops), True)
                    wrong = ("rule", number, 0, i)
                    found = step_by_hand(n, beside, wrong)
                    self.assertIs(is_chain(n, beside, made, [wrong], loops), found == (made, loops))
                else:
                    self.assertIs(is_chain(n, one, other, [step], loops), False)
                    self.assertIs(is_chain(n, other, one, [back], -loops), False)

    def test_single_steps_of_all_numbers(self):
        source = random.Random(246)
        tried = 0
        for n in (1, 2, 3):
            for size in (0, 1, 3):
                start = any_word(source, "parts", n, size)
                for step in all_steps(size, n, 2):
                    made = step_by_hand(n, start, step)
                    if made is None:
                        # Not allowed: it leads nowhere, though the word could stay.
                        self.assertIs(is_chain(n, start, start, [step], 0), False)
                    else:
                        tried += 1
                        self.assertIs(is_chain(n, start, made[0], [step], made[1]), True)
        self.assertGreater(tried, 40)

    def test_wrong_steps(self):
        start = (("e", 0), ("s", 0), ("e", 0), ("p", 2))
        chain = [("rule", 3, 0, 0), ("rule", 2, 0, 0)]
        end = (("e", 0), ("p", 2))
        self.assertIs(is_chain(3, start, end, chain, 1), True)
        for wrong in (
            ("apart", -1), ("apart", 3), ("apart", 0), ("apart", HUGE), ("apart", -2),
            ("rule", -1, 0, 0), ("rule", 26, 0, 0), ("rule", 3, -1, 0), ("rule", 3, 1, 0),
            ("rule", 3, 0, 1), ("rule", 3, 0, -1), ("rule", 3, HUGE, 0), ("rule", 3, 0, HUGE),
            ("back", 3, 0, 1), ("back", 26, 0, 0), ("back", -26, 0, 0), ("back", 0, 5, 0),
            ("back", 0, -1, 0), ("back", 0, 0, 2), ("back", 0, 0, -1), ("back", 2, 1, 0),
        ):
            self.assertIs(is_chain(3, start, end, [wrong] + chain, 1), False)
            self.assertIs(is_chain(3, start, end, chain + [wrong], 1), False)
            self.assertIs(is_chain(3, start, start, [wrong], 0), False)
        self.assertIs(is_chain(3, start, start, [], 0), True)
        self.assertIs(is_chain(3, start, start, [], 1), False)
        crossed = (("e", 0), ("s", 0), ("p", 2), ("e", 0))
        self.assertIs(is_chain(3, start, crossed, [("apart", 2)], 0), True)

    def test_60_letters_and_61(self):
        for size, due in ((57, True), (58, True), (59, False), (60, False)):
            start = (("p", 0),) * size
            made = (("s", 0), ("s", 0)) + start
            step, back = ("back", 0, 0, 0), ("rule", 0, 0, 0)
            self.assertIs(is_chain(2, start, start, [step, back], 0), due)
            self.assertIs(is_chain(2, start, made, [step], 0), due)
            # At the very end letters can be put, too, but not beyond.
            step, back = ("back", 0, size, 0), ("rule", 0, size, 0)
            self.assertIs(is_chain(2, start, start, [step, back], 0), due)
            for at in (size + 1, size + 2, HUGE, -1, -2, -size, -size - 1, -HUGE):
                for end in (made, start + made[:2], start[:-1] + made[:2] + start[-1:]):
                    self.assertIs(is_chain(2, start, end, [("back", 0, at, 0)], 0), False)


class MatricesTest(unittest.TestCase):

    def any_matrix(self, source, world, rows, columns):
        return [[any_number(source, world) for _ in range(columns)] for _ in range(rows)]

    def test_solutions_and_clashes(self):
        source = random.Random(247)
        seen = {True: 0, False: 0}
        for world in WORLDS:
            for rows, columns in ((1, 1), (2, 2), (3, 2), (2, 4), (3, 3), (4, 3), (1, 3)):
                for _ in range(4):
                    matrix = self.any_matrix(source, world, rows, columns)
                    right = [any_number(source, world) for _ in range(rows)]
                    vector = solution(world, matrix, right)
                    numbers = clash(world, matrix, right)
                    seen[vector is None] += 1
                    if vector is None:
                        self.check_clash(world, matrix, right, numbers)
                        for _ in range(5):
                            drawn = [any_number(source, world) for _ in range(columns)]
                            self.assertIs(is_told_solution(world, matrix, right, drawn), False)
                    else:
                        self.check_solution(world, matrix, right, vector)
                        for _ in range(5):
                            drawn = [any_number(source, world) for _ in range(rows)]
                            self.assertIs(is_told_clash(world, matrix, right, drawn), False)
        self.assertGreater(min(seen.values()), 60)

    def check_solution(self, world, matrix, right, vector):
        with Unchanged(self, matrix, right, vector):
            self.assertIs(is_told_solution(world, matrix, right, vector), True)
        # Others are solutions, too, if they differ by what is taken to 0.
        for more in kernel(world, matrix):
            other = [
                as_number(world, as_value(world, x) + 2 * as_value(world, y))
                for x, y in zip(vector, more)
            ]
            self.assertIs(is_told_solution(world, matrix, right, other), True)
        self.assertIs(is_told_solution(world, matrix, right, vector + [NULL]), False)
        self.assertIs(is_told_solution(world, matrix, right, vector[:-1]), False)
        self.assertIs(is_told_solution(world, matrix, right + [NULL], vector), False)
        self.assertIs(is_told_solution(world, matrix, right[:-1], vector), False)
        self.assertIs(is_told_solution(world, matrix, right, [(1, 0)] * len(vector)), False)
        moved = [as_number(world, as_value(world, right[0]) + 1)] + right[1:]
        self.assertIs(is_told_solution(world, matrix, moved, vector), False)

    def check_clash(self, world, matrix, right, numbers):
        with Unchanged(self, matrix, right, numbers):
            self.assertIs(is_told_clash(world, matrix, right, numbers), True)
        twice = [as_number(world, 2 * as_value(world, x)) for x in numbers]
        self.assertIs(is_told_clash(world, matrix, right, twice), False)
        self.assertIs(is_told_clash(world, matrix, right, [NULL] * len(numbers)), False)
        self.assertIs(is_told_clash(world, matrix, right, numbers + [NULL]), False)
        self.assertIs(is_told_clash(world, matrix, right, numbers[:-1]), False)
        self.assertIs(is_told_clash(world, matrix, right + [NULL], numbers), False)
        self.assertIs(is_told_clash(world, matrix, right[:-1], numbers), False)
        self.assertIs(is_told_clash(world, matrix[:-1], right, numbers), False)

    def test_never_both(self):
        # [245]
        world = (3, 1)
        numbers = [(k, 1) for k in range(3)]
        for row in itertools.product(numbers, repeat=4):
            matrix = [list(row[:2]), list(row[2:])]
            for right in itertools.product(numbers, repeat=2):
                pairs = [list(pair) for pair in itertools.product(numbers, repeat=2)]
                solved = any(is_told_solution(world, matrix, list(right), told) for told in pairs)
                clashes = any(is_told_clash(world, matrix, list(right), told) for told in pairs)
                self.assertIs(solved, not clashes)

    def test_empty_matrices(self):
        for world in WORLDS:
            self.assertIs(is_told_solution(world, [], [], []), True)
            self.assertIs(is_told_solution(world, [], [], [NULL]), False)
            self.assertIs(is_told_solution(world, [], [NULL], []), False)
            self.assertIs(is_told_clash(world, [], [], []), False)
            self.assertIs(is_told_solution(world, [[], []], [NULL, NULL], []), True)
            self.assertIs(is_told_solution(world, [[], []], [NULL, ONE], []), False)
            self.assertIs(is_told_clash(world, [[], []], [NULL, ONE], [NULL, ONE]), True)
            self.assertIs(is_told_clash(world, [[], []], [NULL, NULL], [NULL, ONE]), False)

    def test_what_is_no_matrix_or_no_number(self):
        world = (0, 2)
        for x in NO_NUMBERS[world]:
            self.assertIs(is_told_solution(world, [[x]], [ONE], [ONE]), False)
            self.assertIs(is_told_solution(world, [[ONE]], [x], [x]), False)
            self.assertIs(is_told_solution(world, [[ONE]], [x], [ONE]), False)
            self.assertIs(is_told_solution(world, [[NULL]], [NULL], [x]), False)
            self.assertIs(is_told_clash(world, [[x]], [ONE], [ONE]), False)
            self.assertIs(is_told_clash(world, [[NULL]], [x], [ONE]), False)
            self.assertIs(is_told_clash(world, [[NULL]], [ONE], [x]), False)
        # 6 is 1 as a rest by 5, but is no number there.
        self.assertIs(is_told_solution((5, 2), [[ONE]], [ONE], [(6, 1)]), False)
        self.assertIs(is_told_solution((5, 2), [[(6, 1)]], [ONE], [ONE]), False)
        self.assertIs(is_told_clash((5, 2), [[NULL]], [ONE], [(6, 1)]), False)
        for matrix in ([[ONE], []], [[], [ONE]], [[ONE], [ONE, ONE]], [[ONE, ONE], [ONE]]):
            for told in ([], [ONE], [NULL, NULL]):
                self.assertIs(is_told_solution(world, matrix, [NULL, NULL], told), False)
                self.assertIs(is_told_clash(world, matrix, [ONE, ONE], told), False)

    def test_60_rows_and_61(self):
        world = (0, 2)
        for rows, columns, due in ((60, 60, True), (61, 60, False), (60, 61, False), (1, 61, False)):
            matrix = [[NULL] * columns for _ in range(rows)]
            right, vector = [NULL] * rows, [(3, 7)] * columns
            self.assertIs(is_told_solution(world, matrix, right, vector), due)
            right = [ONE] + [NULL] * (rows - 1)
            self.assertIs(is_told_clash(world, matrix, right, right), due)

    def test_wrong_worlds(self):
        for world in WRONG_WORLDS:
            self.assertRaises(NotWorld, is_told_solution, world, [[(1, 0)]], [], [])
            self.assertRaises(NotWorld, is_told_clash, world, [[(1, 0)]], [], [])


class DeterminantTest(unittest.TestCase):

    def any_poly(self, source, most):
        parts = [source.randrange(-4, 5) for _ in range(source.randrange(most + 1))]
        while parts and parts[-1] == 0:
            parts.pop()
        return tuple(parts)

    def test_determinants_and_no_other_polynomials(self):
        source = random.Random(248)
        for size in range(6):
            for _ in range(12):
                matrix = [[self.any_poly(source, 4) for _ in range(size)] for _ in range(size)]
                poly = poly_determinant(matrix)
                with Unchanged(self, matrix, poly):
                    self.assertIs(is_told_determinant(matrix, poly), True)
                for more in ((1,), (-1,), (0, 1), (0, 0, 1), (0,) * 30 + (1,)):
                    self.assertIs(is_told_determinant(matrix, added(poly, more)), False)
                self.assertIs(is_told_determinant(matrix, poly + (0,)), False)

    def test_tables_of_closings(self):
        for family, n, m in (("pairs", 2, 2), ("parts", 1, 2), ("threads", 3, 3), ("loose", 2, 2),
                             ("even", 2, 2), ("parts", 2, 2)):
            matrix = [[(0,) * k + (1,) for k in row] for row in closings(family, n, m)]
            poly = poly_determinant(matrix)
            self.assertIs(is_told_determinant(matrix, poly), True)
            self.assertIs(is_told_determinant(matrix, poly[:-1] + (2,)), False)

    def test_other_polynomials_with_many_values_of_the_determinant(self):
        # (d - 0) .. (d - k) is 0 at 0 .. k, but its degree is too great for a row of degree k.
        zeros = (1,)
        for k in range(6):
            zeros = tuple(
                low - k * high for low, high in zip((0,) + zeros, zeros + (0,))
            )
            self.assertTrue(all(value_at(zeros, x) == 0 for x in range(k + 1)))
            matrix = [[(0,) * k + (1,), (1,)], [(), ()]]
            self.assertIs(is_told_determinant(matrix, ()), True)
            self.assertIs(is_told_determinant(matrix, zeros), False)

    def test_small_ones(self):
        for matrix, poly, due in (
            ([], (1,), True), ([], (), False), ([], (0, 1), False), ([[()]], (), True),
            ([[()]], (1,), False), ([[(5,)]], (5,), True), ([[(0, 1)]], (0, 1), True),
            ([[(0, 1)]], (0,), False), ([[(0,)]], (), False), ([[(1, 0)]], (1,), False),
            ([[(0, 1), (1,)], [(1,), (0, 1)]], (-1, 0, 1), True),
            ([[(0, 1), (1,)], [(1,), (0, 1)]], (1, 0, -1), False),
            ([[(), (1,)], [(1,), ()]], (-1,), True), ([[(), (1,)], [(1,), (7,)]], (-1,), True),
        ):
            self.assertIs(is_told_determinant(matrix, poly), due, (matrix, poly))

    def test_signs_of_exchanged_rows(self):
        for size in range(6):
            for places in itertools.permutations(range(size)):
                matrix = [[(1,) if k == place else () for k in range(size)] for place in places]
                due = 1
                for low, high in itertools.combinations(places, 2):
                    due = -due if low > high else due
                self.assertIs(is_told_determinant(matrix, (due,)), True)
                self.assertIs(is_told_determinant(matrix, (-due,)), False)

    def test_other_lengths_and_30_lists(self):
        one = (1,)
        for matrix in ([[one, one]], [[one], [one]], [[], []], [[]], [[one, one], [one]],
                       [[one], [one, one]]):
            self.assertIs(is_told_determinant(matrix, one), False)
            self.assertIs(is_told_determinant(matrix, (1,) * 500), False)
        for size in (30, 31):
            matrix = [[one if i == j else () for j in range(size)] for i in range(size)]
            self.assertIs(is_told_determinant(matrix, one), size == 30)
        self.assertIs(is_told_determinant([[one] * 31 for _ in range(31)], (1,) * 101), False)
        self.assertIs(is_told_determinant([[(1,) * 200] * 31 for _ in range(31)], one), False)
        matrix = [[(0, 1) if i == j else (1,) for j in range(30)] for i in range(30)]
        self.assertIs(is_told_determinant(matrix, poly_determinant(matrix)), True)

    def test_100_and_101(self):
        wide = (0,) * 100 + (1,)
        matrix = [[wide]]
        # The determinant has 101 parts here, so that it is too large itself.
        self.assertRaises(TooLarge, is_told_determinant, matrix, wide)
        self.assertIs(is_told_determinant(matrix, wide[1:]), False)
        self.assertIs(is_told_determinant([[wide, wide], [(1,), (1,)]], ()), True)
        self.assertRaises(TooLarge, is_told_determinant, [[(0,) + wide]], ())
        self.assertRaises(TooLarge, is_told_determinant, [[(0,) * 102]], ())
        self.assertRaises(TooLarge, is_told_determinant, [[(1,)]], (0,) * 101)
        self.assertIs(is_told_determinant([[(1,)]], (0,) * 100), False)
        self.assertIs(is_told_determinant([[(1, 0)]], (0,)), False)
        half = (0,) * 50 + (1,)
        rows = [[half, (1,)], [(0, 1), half]]
        self.assertIs(is_told_determinant(rows, (0, -1)), False)
        self.assertRaises(TooLarge, is_told_determinant, rows, poly_determinant(rows))
        self.assertIs(is_told_determinant([[half, (1,)], [(0, 1), ()]], (0, -1)), True)
        more = (0,) * 51 + (1,)
        self.assertRaises(TooLarge, is_told_determinant, [[half, (1,)], [(0, 1), more]], (0, -1))
        # A row of 0 alone has the degree 0.
        for k, error in ((100, None), (101, TooLarge)):
            rows = [[(), ()], [(0,) * k + (1,), (1,)]]
            if error:
                self.assertRaises(error, is_told_determinant, rows, ())
            else:
                self.assertIs(is_told_determinant(rows, ()), True)
        # Of each row the greatest degree counts.
        self.assertRaises(
            TooLarge, is_told_determinant, [[half, more], [(1,), half]], (0, -1)
        )
        ninety = (0,) * 99 + (1,)
        self.assertIs(is_told_determinant([[ninety]], ninety), True)
