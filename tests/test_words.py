"""Points [60] to [62], [67] and the example [68]: words."""

import itertools
import random
import unittest

from tests.helpers import any_word, family_diagrams, family_letters, put_by_hand, word_by_hand
from threadworth.basics import bridge, cut, hook, swap, unit
from threadworth.diagrams import FAMILIES, is_in
from threadworth.errors import BadNumber, Malformed, NotFamily, NotWord
from threadworth.putting import over, put
from threadworth.words import (
    check_word, diagram_of, is_word, is_word_of, letters, read_word, word_text,
)

S0, E0, P0, B0 = ("s", 0), ("e", 0), ("p", 0), ("b", 0)
NO_WORDS = (
    (2, (("s", 1),)), (2, (("e", 1),)), (2, (("b", 1),)), (2, (("p", 2),)), (2, (("s", -1),)),
    (2, (("p", -1),)), (6, (("s", 5),)), (6, (("p", 6),)), (1, (S0,)), (1, (E0,)), (1, (B0,)),
    (0, (P0,)), (0, (S0,)), (2, (("x", 0),)), (2, (("", 0),)), (2, (("S", 0),)),
    (2, (("se", 0),)), (2, (S0, ("s", 1))), (2, (("s", 1), S0)), (2, (S0,) * 61),
    (6, (("p", 5),) * 61), (3, (("s", 10 ** 40),)), (2, (S0,) * 59 + (("s", 1),)),
)


class LettersTest(unittest.TestCase):

    def test_letters_of_each_family_in_order(self):
        for family in FAMILIES:
            for n in range(7):
                self.assertEqual(letters(family, n), family_letters(family, n))

    def test_some_written_out(self):
        self.assertEqual(letters("parts", 2), [S0, E0, P0, ("p", 1), B0])
        self.assertEqual(letters("loose", 3), [S0, ("s", 1), P0, ("p", 1), ("p", 2)])
        self.assertEqual(letters("even", 1), [])
        self.assertEqual(letters("lonepairs", 1), [P0])
        self.assertEqual(letters("parts", 0), [])

    def test_numbers_of_letters(self):
        for n in range(1, 7):
            many = [len(letters(family, n)) for family in FAMILIES]
            k = n - 1
            self.assertEqual(many, [k, k + n, 2 * k, 2 * k + n, 3 * k, 3 * k + n])

    def test_results_share_no_list(self):
        first = letters("parts", 3)
        first.append("x")
        self.assertNotIn("x", letters("parts", 3))

    def test_errors_in_order(self):
        self.assertRaises(NotFamily, letters, "part", 7)
        self.assertRaises(NotFamily, letters, "", 2)
        for n in (-1, 7, 10 ** 40):
            self.assertRaises(BadNumber, letters, "pairs", n)


class FormTest(unittest.TestCase):

    def test_least_and_greatest_indexes(self):
        for n in range(7):
            for kind in "sepb":
                most = n - 1 if kind == "p" else n - 2
                for i in range(-2, n + 2):
                    self.assertIs(is_word(n, ((kind, i),)), 0 <= i <= most, (n, kind, i))

    def test_a_letter_is_one_exactly_if_there_is_its_diagram(self):
        drawn = {"s": swap, "e": hook, "p": cut, "b": bridge}
        for n, kind, i in itertools.product(range(7), "sepb", range(-1, 8)):
            if is_word(n, ((kind, i),)):
                self.assertEqual(diagram_of(n, ((kind, i),)), (0, drawn[kind](n, i)))
            else:
                self.assertRaises(BadNumber, drawn[kind], n, i)

    def test_the_empty_word(self):
        for n in range(7):
            self.assertIs(is_word(n, ()), True)
            self.assertIsNone(check_word(n, ()))
            self.assertEqual(diagram_of(n, ()), (0, unit(n)))
            self.assertEqual(word_text(n, ()), "-")
            self.assertEqual(read_word(n, "-"), ())
            for family in FAMILIES:
                self.assertIs(is_word_of(family, n, ()), True)

    def test_60_letters_and_61(self):
        word = (S0,) * 60
        self.assertIs(is_word(2, word), True)
        self.assertIsNone(check_word(2, word))
        self.assertEqual(diagram_of(2, word), (0, unit(2)))
        self.assertEqual(diagram_of(2, (E0,) * 60), (59, hook(2, 0)))
        self.assertIs(is_word(2, word + (S0,)), False)

    def test_tuples_that_are_no_words(self):
        for n, word in NO_WORDS:
            with self.subTest(n=n, word=word):
                self.assertIs(is_word(n, word), False)
                self.assertRaises(NotWord, check_word, n, word)
                self.assertRaises(NotWord, diagram_of, n, word)
                self.assertRaises(NotWord, is_word_of, "parts", n, word)
                self.assertRaises(NotWord, is_word_of, "threads", n, word)
                self.assertRaises(NotWord, word_text, n, word)

    def test_strands_come_before_the_word(self):
        for n in (-1, 7):
            for word in ((), (S0,), (("x", 0),)):
                for function in (is_word, check_word, diagram_of, word_text):
                    self.assertRaises(BadNumber, function, n, word)
                self.assertRaises(BadNumber, is_word_of, "parts", n, word)
                self.assertRaises(NotFamily, is_word_of, "x", n, word)
            self.assertRaises(BadNumber, read_word, n, "x")
            self.assertRaises(BadNumber, read_word, n, "-")
        self.assertRaises(NotFamily, is_word_of, "Pairs", 2, (("x", 0),))


class DiagramTest(unittest.TestCase):

    def test_words_of_each_family(self):
        source = random.Random(61)
        for family in FAMILIES:
            for n in range(7):
                for size in (1, 2, 3, 5, 9, 20):
                    word = any_word(source, family, n, size)
                    loops, made = diagram_of(n, word)
                    self.assertEqual((loops, made), word_by_hand(n, word))
                    self.assertIs(is_in(family, made), True)
                    self.assertIs(is_word_of(family, n, word), True)

    def test_the_first_letter_is_at_the_top(self):
        self.assertEqual(diagram_of(2, (E0, P0)), (0, (2, 2, ((0, 1), (2,), (3,)))))
        self.assertEqual(diagram_of(2, (P0, E0)), (0, (2, 2, ((0,), (1,), (2, 3)))))
        self.assertEqual(diagram_of(3, (S0, ("s", 1))), (0, (3, 3, ((0, 5), (1, 3), (2, 4)))))

    def test_two_parts_one_behind_the_other(self):
        source = random.Random(62)
        for family, n in itertools.product(FAMILIES, range(2, 7)):
            for size in (0, 1, 4, 7):
                one = any_word(source, family, n, size)
                other = any_word(source, family, n, 6)
                first, upper = diagram_of(n, one)
                second, lower = diagram_of(n, other)
                third, made = put_by_hand(upper, lower)
                self.assertEqual(diagram_of(n, one + other), (first + second + third, made))
                self.assertEqual(put(upper, lower), (third, made))

    def test_a_word_backwards_is_turned_over(self):
        source = random.Random(63)
        for family, n in itertools.product(FAMILIES, range(7)):
            word = any_word(source, family, n, 9)
            loops, made = diagram_of(n, word)
            self.assertEqual(diagram_of(n, word[::-1]), (loops, over(made)))

    def test_example(self):
        self.assertEqual(diagram_of(2, (E0, S0, E0)), (1, hook(2, 0)))
        self.assertEqual(diagram_of(2, (S0, B0)), (0, bridge(2, 0)))


class FamilyTest(unittest.TestCase):

    def test_words_with_another_kind_are_not_of_the_family(self):
        source = random.Random(64)
        for family, n in itertools.product(FAMILIES, range(1, 7)):
            own = family_letters(family, n)
            for letter in letters("parts", n):
                word = any_word(source, family, n, 4)
                for at in range(len(word) + 1):
                    longer = word[:at] + (letter,) + word[at:]
                    self.assertIs(is_word_of(family, n, longer), letter in own)

    def test_each_diagram_of_a_family_is_that_of_a_word(self):
        for family in FAMILIES:
            for n in range(4):
                met = {unit(n)}
                grown = True
                while grown:
                    more = {
                        put(diagram, diagram_of(n, (letter,))[1])[1]
                        for diagram in met for letter in letters(family, n)
                    }
                    grown = not more <= met
                    met |= more
                self.assertEqual(met, set(family_diagrams(family, n, n)))


class TextTest(unittest.TestCase):

    def test_texts_are_read_back(self):
        source = random.Random(67)
        for n in range(1, 7):
            for size in (1, 2, 10, 59, 60):
                word = any_word(source, "parts", n, size)
                text = word_text(n, word)
                self.assertEqual(text, " ".join(kind + str(i) for kind, i in word))
                self.assertEqual(read_word(n, text), word)

    def test_some_written_out(self):
        self.assertEqual(word_text(2, (E0, S0, E0)), "e0 s0 e0")
        self.assertEqual(read_word(6, "p5 b4 e3"), (("p", 5), ("b", 4), ("e", 3)))
        self.assertEqual(read_word(0, "-"), ())

    def wrong(self, n, text, at):
        with self.assertRaises(Malformed) as caught:
            read_word(n, text)
        self.assertEqual(caught.exception.at, at, text)

    def test_a_wrong_part_at_each_place(self):
        parts = ["s0", "p1", "e1", "b0", "p2"]
        for at in range(5):
            for part in ("s2", "p3", "s", "0", "", "-", "x0", "S0", "s00", "s01", "s-0", "s+0",
                         "s-1", "s0 ", "0s", "s0s0", "s\u0661", "s 0", "s" + "1" * 5000):
                words = parts[:at] + [part] + parts[at + 1:]
                wrong = at + 1 if part in ("s0 ",) else at
                self.wrong(3, " ".join(words), wrong)
            self.wrong(3, " ".join(parts[:at] + ["s9"] + parts[at + 1:3] + ["x"]), at)

    def test_two_spaces_and_spaces_at_the_ends(self):
        self.wrong(2, "s0  s0", 1)
        self.wrong(2, " s0", 0)
        self.wrong(2, "s0 ", 1)
        self.wrong(2, "", 0)
        self.wrong(2, " ", 0)
        self.wrong(2, "- -", 0)
        self.wrong(2, "s0 -", 1)
        self.wrong(2, "-s0", 0)
        self.wrong(2, "s0\ts0", 0)
        self.wrong(2, "s0\n", 0)

    def test_no_letters_at_all(self):
        self.wrong(0, "p0", 0)
        self.wrong(1, "s0", 0)
        self.wrong(1, "p0 p1", 1)

    def test_more_than_60_parts(self):
        self.assertEqual(len(read_word(2, " ".join(["s0"] * 60))), 60)
        self.wrong(2, " ".join(["s0"] * 61), 60)
        self.wrong(2, " ".join(["s0"] * 200), 60)
        self.wrong(2, " ".join(["s0"] * 60 + ["x"]), 60)
        self.wrong(2, " ".join(["s0"] * 70 + ["x"]), 60)
        self.wrong(2, " ".join(["s0"] * 59 + ["x"] + ["s0"] * 9), 59)
        self.wrong(2, " ".join(["s0"] * 60) + " ", 60)
