"""What the document promises over the whole program, from one part to another."""

import itertools
import random
import unittest

from tests.helpers import any_number, any_word, as_value, context_worth_by_hand
from tests.test_alike import any_context, any_sum
from threadworth.alike import (
    apart, are_alike, decide, is_answer, is_lost, lost_basis, plain, worth_in_context, worths_of,
)
from threadworth.basics import swap, unit
from threadworth.certificates import (
    diagram_told, has_no_colours, is_chain, is_told_clash, is_told_determinant, is_told_lost,
    is_told_solution, shown, worths_told,
)
from threadworth.colours import few_blocks, is_without_colours, matched, sum_table
from threadworth.contexts import outside
from threadworth.desk import Desk
from threadworth.diagrams import FAMILIES, counted, listed
from threadworth.falling import rest_of
from threadworth.growing import grown, shrunk
from threadworth.journal import resume
from threadworth.linear import clash, product, solution
from threadworth.moves import steps_of, stepped, undone, walked
from threadworth.numbers import number_text
from threadworth.powers import power
from threadworth.putting import put
from threadworth.sums import Sum, read_sum, text_of_sum, unit_sum, zero_sum
from threadworth.tables import closings, determinant, is_spoilt, worths
from threadworth.texts import text_of
from threadworth.through import led, lower, middle, upper
from threadworth.words import diagram_of, word_text
from threadworth.wordsof import first_word, lengths

WORLDS = ((0, 1), (0, 2), (0, 3), (0, 0), (0, -1), (0, -2), (2, 1), (3, 0), (3, 2), (5, 4))
SIZES = ((1, 1), (2, 1), (0, 2), (2, 2), (1, 3))


def cases(source):
    """Pairs of sums of a family, some of which are alike but not equal."""
    for family, world in itertools.product(FAMILIES, WORLDS):
        for n, m in SIZES:
            one = any_sum(source, world, family, n, m)
            yield family, one, any_sum(source, world, family, n, m)
            for lost in lost_basis(world, family, n, m)[-2:]:
                yield family, one, one + lost.scaled(any_number(source, world))


def all_ways(family, one, other):
    """All ways in which the program tells if two sums are alike."""
    world, n, m = one.world, one.n, one.m
    less = one - other
    found = {
        "alike": are_alike(one, other, family), "apart": apart(one, other, family) is None,
        "decide": decide(one, other, family)[0] == "alike", "lost": is_lost(less, family),
        "worths": worths_of(one, family) == worths_of(other, family),
        "plain": plain(one, family) == plain(other, family),
        "zero": plain(less, family) == zero_sum(world, n, m),
        "told": is_told_lost(world, family, n, m, one.terms() + (-other).terms()),
    }
    if world[0] == 0 and 1 <= world[1] <= 4:
        found["dark"] = is_without_colours(less)
        found["matched"] = matched(less, less) == (0, 1)
        found["few"] = few_blocks(one) == few_blocks(other)
        found["colours"] = has_no_colours(world[1], n, m, less.terms())
        found["parts"] = is_lost(less, "parts")
    if world[0] == 0 and family == "threads" and n == m:
        found["rest"] = rest_of(one) == rest_of(other)
    desk = Desk()
    desk.answers(["sum a " + text_of_sum(one), "sum b " + text_of_sum(other)])
    found["desk"] = desk.answer("alike a b " + family) == "yes"
    return found


class AlikeTest(unittest.TestCase):

    def test_all_ways_say_the_same(self):
        source = random.Random(46)
        seen = {True: 0, False: 0}
        for family, one, other in cases(source):
            found = all_ways(family, one, other)
            self.assertEqual(len(set(found.values())), 1, (family, one.terms(), other.terms(), found))
            seen[found["alike"]] += one != other
        self.assertGreater(min(seen.values()), 100)

    def test_contexts_and_the_checker(self):
        source = random.Random(140)
        tried = 0
        for family, one, other in cases(source):
            world, n, m = one.world, one.n, one.m
            answer = decide(one, other, family)
            told = (world, family, n, m, one.terms(), other.terms())
            self.assertEqual(shown(*told, answer), answer[0])
            self.assertIs(is_answer(one, other, family, answer), True)
            self.assertEqual(worths_told(*told[:5]), worths_of(one, family))
            context = any_context(source, family, n, m)
            if context:
                tried += 1
                first, second = worth_in_context(one, *context), worth_in_context(other, *context)
                if answer[0] == "alike":
                    self.assertEqual(first, second)
                elif first != second:
                    # What parts them in the context parts them as a diagram, too.
                    _, c = outside(*context)
                    if world[0] == 0 or world[1] != 0:
                        self.assertEqual(shown(*told, ("apart", c)), "apart")
                for diagram, x in one.terms()[:1]:
                    single = Sum(world, n, m, [(diagram, x)])
                    count = context_worth_by_hand(diagram, *context)
                    due = as_value(world, x) * world[1] ** count
                    found = as_value(world, worth_in_context(single, *context))
                    self.assertEqual(found, due % world[0] if world[0] else due)
        self.assertGreater(tried, 300)

    def test_in_a_wider_family(self):
        # For 1 to 4 colours what is lost in a family is lost in each one in which it is.
        wider = {
            "threads": ("loose", "pairs", "lonepairs", "even", "parts"), "loose": ("lonepairs", "parts"),
            "pairs": ("lonepairs", "even", "parts"), "lonepairs": ("parts",), "even": ("parts",),
            "parts": (),
        }
        tried = 0
        for d in range(1, 5):
            for family, others in wider.items():
                for n, m in ((1, 1), (2, 2), (3, 1), (0, 4)):
                    for one in lost_basis((0, d), family, n, m)[:3]:
                        self.assertIs(has_no_colours(d, n, m, one.terms()), True)
                        for other in others:
                            self.assertIs(is_lost(one, other), True)
                            self.assertIs(is_told_lost((0, d), other, n, m, one.terms()), True)
                            tried += 1
        self.assertGreater(tried, 60)
        # In other worlds it need not be.
        one = Sum((0, -1), 2, 2, [(unit(2), (1, 1)), (swap(2, 0), (1, 1))])
        self.assertIs(is_lost(one, "threads"), True)
        for family in ("pairs", "lonepairs", "even", "parts"):
            self.assertIs(is_lost(one, family), False)
            self.assertIs(is_told_lost((0, -1), family, 2, 2, one.terms()), False)

    def test_within_products_and_beside(self):
        source = random.Random(142)
        for family, world in itertools.product(FAMILIES, WORLDS):
            for lost in lost_basis(world, family, 2, 2)[:2]:
                a, b = any_sum(source, world, family, 2, 2), any_sum(source, world, family, 2, 2)
                for made in (a * lost, lost * b, a * lost * b, lost.over(), lost + lost):
                    self.assertIs(is_lost(made, family), True)
                self.assertEqual(plain(a + lost, family), plain(a, family))
                self.assertEqual(plain((a + lost) * b, family), plain(plain(a, family) * b, family))
                if counted(family, 3, 3) <= 250:
                    self.assertIs(is_lost(grown(lost), family), True)
                self.assertIs(is_lost(shrunk(lost), family), True)

    def test_where_nothing_is_lost(self):
        for family, (n, m) in itertools.product(FAMILIES, SIZES):
            if 0 < counted(family, n, m) <= 30:
                matrix = [[(0,) * k + (1,) for k in row] for row in closings(family, n, m)]
                self.assertIs(is_told_determinant(matrix, determinant(family, n, m)), True)
                for world in WORLDS:
                    lost = bool(lost_basis(world, family, n, m))
                    self.assertIs(is_spoilt(world, family, n, m), lost)

    def test_solutions_of_worths(self):
        # Which sum of a family has given worths: one is found and checked, or there is a clash.
        source = random.Random(245)
        seen = {True: 0, False: 0}
        for family, world in itertools.product(FAMILIES, WORLDS):
            table = worths(world, family, 2, 2)
            for right in ([any_number(source, world) for _ in table], [row[0] for row in table]):
                vector, numbers = solution(world, table, right), clash(world, table, right)
                seen[vector is None] += 1
                if vector is None:
                    self.assertIs(is_told_clash(world, table, right, numbers), True)
                else:
                    self.assertIs(is_told_solution(world, table, right, vector), True)
                    one = Sum(world, 2, 2, list(zip(listed(family, 2, 2), vector)))
                    self.assertEqual(sorted(worths_of(one, family)), sorted(right))
        self.assertGreater(min(seen.values()), 10)


class WordsTest(unittest.TestCase):

    def test_words_products_and_tables(self):
        source = random.Random(61)
        for family in FAMILIES:
            for n, d in ((1, 3), (2, 2), (2, 4), (3, 1), (3, 2), (4, 2)):
                world = (0, d)
                word = any_word(source, family, n, 6)
                made = unit_sum(world, n)
                table = sum_table(made)
                for letter in word:
                    _, small = diagram_of(n, (letter,))
                    one = Sum(world, n, n, [(small, (1, 1))])
                    made = made * one
                    if len(table) <= 16:
                        table = product(world, table, sum_table(one))
                loops, diagram = diagram_of(n, word)
                self.assertEqual(diagram_told(n, word), (loops, diagram))
                self.assertEqual(made.terms(), [(diagram, (d ** loops, 1))])
                self.assertTrue(made.is_in(family))
                if len(table) <= 16:
                    self.assertEqual(sum_table(made), table)
                back = tuple(reversed(word))
                self.assertEqual(diagram_told(n, back)[0], loops)
                self.assertEqual(made.over().terms()[0][0], diagram_told(n, back)[1])

    def test_first_words_checked_apart(self):
        for family in FAMILIES:
            for n in range(4):
                if counted(family, n, n) > 250:
                    continue
                sizes = [0] * len(lengths(family, n))
                for diagram in listed(family, n, n):
                    word = first_word(family, diagram)
                    sizes[len(word)] += 1
                    loops, made = diagram_told(n, word)
                    self.assertEqual((made, diagram_of(n, word)), (diagram, (loops, diagram)))
                    for size in range(len(word)):
                        _, before = diagram_told(n, word[:size])
                        self.assertEqual(first_word(family, before), word[:size])
                self.assertEqual(sizes, lengths(family, n))

    def test_chains_taken_by_the_checker(self):
        source = random.Random(66)
        for n in (2, 3, 4):
            for _ in range(10):
                word, chain = any_word(source, "parts", n, 5), []
                end = word
                for _ in range(6):
                    chain.append(source.choice(steps_of(n, end)))
                    end, _ = stepped(n, end, chain[-1])
                self.assertEqual(walked(n, word, chain)[0], end)
                _, taken = walked(n, word, chain)
                self.assertIs(is_chain(n, word, end, chain, taken), True)
                self.assertIs(is_chain(n, end, word, undone(n, word, chain), -taken), True)
                self.assertEqual(diagram_told(n, word)[1], diagram_told(n, end)[1])
                self.assertEqual(diagram_told(n, word)[0] - taken, diagram_told(n, end)[0])


class TextsTest(unittest.TestCase):

    def test_what_a_desk_shows_can_be_read(self):
        source = random.Random(87)
        for family, world in itertools.product(FAMILIES, WORLDS):
            one = any_sum(source, world, family, 2, 2)
            desk = Desk()
            desk.answer("sum a " + text_of_sum(one))
            self.assertEqual(read_sum(desk.answer("show a")), one)
            self.assertEqual(desk.thing("a"), one)
            self.assertEqual(desk.answer("worth a"), number_text(world, one.worth()))

    def test_parts_and_powers_of_words(self):
        source = random.Random(201)
        for family in FAMILIES:
            for n in range(1, 5):
                word = any_word(source, family, n, 4)
                loops, diagram = diagram_told(n, word)
                text = text_of(diagram)
                desk = Desk()
                if word:
                    run = "run " + str(n) + " " + word_text(n, word)
                    self.assertEqual(desk.answer(run), str(loops) + " " + text)
                parts = [text_of(part) for part in (upper(diagram), middle(diagram), lower(diagram))]
                self.assertEqual(desk.answer("halves " + text), " ".join(parts))
                more, made = put(diagram, diagram)
                self.assertEqual(power(diagram, 2), (more, made))
                # A word twice over: its loops twice, and those of the power.
                self.assertEqual(diagram_told(n, word + word), (2 * loops + more, made))
                if family != "even":
                    u, between, v = led(family, made, diagram)
                    first, above = put(u, diagram)
                    second, found = put(above, v)
                    self.assertEqual((first + second, found), (between, made))

    def test_a_journal_of_all(self):
        lines = [
            "sum a 0 2 2 2 1 ab|ab", "run 2 s0 e0", "sum b 0 2 2 2 1/2 aa|bb", "times c b b",
            "alike b c pairs", "less d b c", "plain d d pairs", "lost d pairs", "few e a", "show e",
            "grow f a", "shrink f f", "rest g a", "decide a b parts", "spoilt pairs 2 2", "drop z",
        ]
        desk, journal = Desk(), resume("")
        answers = desk.answers(lines)
        self.assertEqual([journal.answer(line) for line in lines], answers)
        self.assertEqual(resume(journal.record()).record(), journal.record())
        self.assertEqual(answers[1], "0 aa|bb")
        self.assertEqual(answers[4], "yes")
        self.assertEqual(answers[7], "yes")
        self.assertEqual(answers[-1], "unknown z")
