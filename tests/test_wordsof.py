"""Point [63] and the example [68]: first words."""

import itertools
import unittest

from tests.helpers import family_diagrams, family_letters, word_by_hand
from threadworth.basics import bridge, cut, hook, swap, unit
from threadworth.diagrams import FAMILIES, counted, listed
from threadworth.errors import BadNumber, NotDiagram, NotFamily, TooLarge
from threadworth.words import diagram_of, is_word_of
from threadworth.wordsof import first_word, lengths

WITHIN = [
    (family, n) for family in FAMILIES for n in range(7) if counted(family, n, n) <= 250
]
BEYOND = [
    (family, n) for family in FAMILIES for n in range(7) if counted(family, n, n) > 250
]


def first_words_by_trying(family, n, most):
    """The first words with at most so many letters, by trying all words in order."""
    order = family_letters(family, n)
    found = {}
    for size in range(most + 1):
        for word in itertools.product(order, repeat=size):
            found.setdefault(word_by_hand(n, word)[1], word)
    return found


class FirstWordTest(unittest.TestCase):

    def test_trying_all_words(self):
        for family, n, most in (
            ("threads", 3, 3), ("threads", 4, 6), ("loose", 2, 4), ("loose", 3, 4),
            ("pairs", 2, 3), ("pairs", 3, 4), ("lonepairs", 2, 4), ("lonepairs", 3, 3),
            ("even", 2, 3), ("even", 3, 3), ("parts", 2, 4), ("parts", 3, 3),
        ):
            for diagram, word in first_words_by_trying(family, n, most).items():
                self.assertEqual(first_word(family, diagram), word, (family, diagram))

    def test_words_of_all_diagrams(self):
        for family, n in WITHIN:
            due = family_diagrams(family, n, n) if n < 4 else listed(family, n, n)
            for diagram in due[::1 if n < 4 else 17]:
                word = first_word(family, diagram)
                self.assertEqual(diagram_of(n, word)[1], diagram)
                self.assertIs(is_word_of(family, n, word), True)

    def test_each_beginning_is_a_first_word(self):
        for family, n in WITHIN:
            for diagram in listed(family, n, n)[::13]:
                word = first_word(family, diagram)
                for size in range(len(word)):
                    _, made = diagram_of(n, word[:size])
                    self.assertEqual(first_word(family, made), word[:size])

    def test_no_letters(self):
        for family in FAMILIES:
            self.assertEqual(first_word(family, (0, 0, ())), ())
            self.assertEqual(first_word(family, unit(1)), ())
        self.assertEqual(first_word("threads", unit(5)), ())
        self.assertEqual(first_word("loose", cut(1, 0)), (("p", 0),))

    def test_example(self):
        self.assertEqual(first_word("pairs", unit(2)), ())
        self.assertEqual(first_word("pairs", swap(2, 0)), (("s", 0),))
        self.assertEqual(first_word("pairs", hook(2, 0)), (("e", 0),))

    def test_the_lesser_one_of_words_as_long(self):
        # s0 s2 comes before s2 s0, and s before e, p and b.
        made = diagram_of(4, (("s", 2), ("s", 0)))[1]
        self.assertEqual(first_word("threads", made), (("s", 0), ("s", 2)))
        made = diagram_of(2, (("p", 1), ("p", 0)))[1]
        self.assertEqual(first_word("parts", made), (("p", 0), ("p", 1)))
        made = diagram_of(3, (("b", 1), ("s", 0), ("s", 1)))[1]
        self.assertEqual(first_word("parts", made), (("s", 0), ("s", 1), ("b", 0)))

    def test_the_family_decides(self):
        both = (2, 2, ((0, 1), (2,), (3,)))
        self.assertEqual(first_word("lonepairs", both), (("e", 0), ("p", 0)))
        self.assertRaises(BadNumber, first_word, "pairs", both)
        self.assertEqual(first_word("even", bridge(2, 0)), (("b", 0),))

    def test_errors_in_order(self):
        wrong = (1, 1, ((1,), (0,)))
        self.assertRaises(NotFamily, first_word, "odd", wrong)
        self.assertRaises(NotDiagram, first_word, "parts", wrong)
        self.assertRaises(NotDiagram, first_word, "threads", (7, 7, ()))
        for family, diagram in (
            ("parts", (1, 0, ((0,),))), ("parts", (8, 4, tuple((k,) for k in range(12)))),
            ("threads", cut(1, 0)), ("pairs", cut(2, 0)), ("even", cut(2, 0)),
            ("lonepairs", bridge(2, 0)), ("loose", hook(2, 0)),
            # Too many diagrams, too; but this is told first.
            ("threads", hook(6, 0)), ("even", cut(6, 0)), ("pairs", cut(5, 0)),
        ):
            self.assertRaises(BadNumber, first_word, family, diagram)

    def test_250_diagrams_and_more(self):
        self.assertEqual(max(counted(*size, size[1]) for size in WITHIN), 209)
        self.assertEqual(min(counted(*size, size[1]) for size in BEYOND), 379)
        for family, n in BEYOND:
            self.assertRaises(TooLarge, first_word, family, unit(n))
            self.assertRaises(TooLarge, lengths, family, n)


class LengthsTest(unittest.TestCase):

    def test_numbers_of_first_words(self):
        for family, n in WITHIN:
            words = [first_word(family, diagram) for diagram in listed(family, n, n)[:60]]
            due = [0] * 12
            for word in words:
                due[len(word)] += 1
            found = lengths(family, n)
            self.assertEqual(sum(found), counted(family, n, n))
            self.assertNotEqual(found[-1], 0)
            if len(words) == counted(family, n, n):
                self.assertEqual(found, due[:len(found)])

    def test_some_written_out(self):
        self.assertEqual(lengths("threads", 3), [1, 2, 2, 1])
        self.assertEqual(lengths("threads", 4), [1, 3, 5, 6, 5, 3, 1])
        self.assertEqual(lengths("pairs", 2), [1, 2])
        self.assertEqual(lengths("loose", 1), [1, 1])
        for family in FAMILIES:
            self.assertEqual(lengths(family, 0), [1])

    def test_errors_in_order(self):
        self.assertRaises(NotFamily, lengths, "odd", 7)
        for n in (-1, 7, 10 ** 40):
            self.assertRaises(BadNumber, lengths, "parts", n)
