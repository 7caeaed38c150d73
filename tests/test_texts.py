"""Point [25] and the example [26]: texts of diagrams."""

import itertools
import unittest

from tests.helpers import all_partitions, diagram_of_row, sizes_up_to
from threadworth.errors import Malformed, NotDiagram
from threadworth.texts import read_diagram, text_of


def text_of_row(n, row):
    letters = "".join("abcdefghijkl"[k] for k in row)
    return letters[:n] + "|" + letters[n:]


class TextTest(unittest.TestCase):

    def assert_malformed(self, text, at):
        with self.assertRaises(Malformed, msg=text) as caught:
            read_diagram(text)
        self.assertEqual(caught.exception.at, at, text)

    def test_all_small_diagrams(self):
        for n, m in sizes_up_to(6):
            for row in all_partitions(n + m):
                diagram = diagram_of_row(n, m, row)
                self.assertEqual(text_of(diagram), text_of_row(n, row))
                self.assertEqual(read_diagram(text_of_row(n, row)), diagram)

    def test_example(self):
        self.assertEqual(text_of((2, 2, ((0, 1), (2, 3)))), "aa|bb")
        self.assertEqual(text_of((2, 2, ((0, 3), (1, 2)))), "ab|ba")
        self.assertEqual(text_of((0, 0, ())), "|")
        self.assertEqual(read_diagram("|"), (0, 0, ()))

    def test_twelve_blocks(self):
        diagram = (8, 4, tuple((k,) for k in range(12)))
        self.assertEqual(text_of(diagram), "abcdefgh|ijkl")
        self.assertEqual(read_diagram("abcdefgh|ijkl"), diagram)
        self.assertEqual(read_diagram("abcd|efghijkl"), (4, 8, diagram[2]))

    def test_no_diagram(self):
        for wrong in ((1, 1, ((1,), (0,))), (9, 0, ()), (1, 1, ((0,),))):
            self.assertRaises(NotDiagram, text_of, wrong)

    def test_each_text_of_few_characters(self):
        # Texts of diagrams with up to 6 points show how each begins that is
        # to be read up to its sixth character.
        beginnings = set()
        whole = set()
        for n, m in sizes_up_to(6):
            for row in all_partitions(n + m):
                text = text_of_row(n, row)
                whole.add(text)
                beginnings.update(text[:k] for k in range(len(text) + 1))
        for size in range(6):
            for signs in itertools.product("abcx|", repeat=size):
                text = "".join(signs)
                if text in whole:
                    self.assertEqual(text_of(read_diagram(text)), text)
                    continue
                at = 0
                while at < size and text[:at + 1] in beginnings:
                    at += 1
                self.assert_malformed(text, at)

    def test_texts_that_are_cut_off(self):
        self.assert_malformed("", 0)
        self.assert_malformed("a", 1)
        self.assert_malformed("abcdefgh", 8)

    def test_wrong_letters_at_each_place(self):
        text = "abac|dbea"
        self.assertEqual(text_of(read_diagram(text)), text)
        for at in range(len(text)):
            for sign in ("A", " ", "m", "z", "`", "{", "1", "\n", "\u00e4", "-", ""):
                if sign:
                    self.assert_malformed(text[:at] + sign + text[at + 1:], at)
        self.assert_malformed(text + " ", 9)

    def test_letters_that_skip_one(self):
        self.assert_malformed("b|", 0)
        self.assert_malformed("ac|", 1)
        self.assert_malformed("aab|aad", 6)
        self.assert_malformed("|b", 1)
        self.assert_malformed("abcdefgh|ijkm", 12)

    def test_second_bars(self):
        self.assert_malformed("||", 1)
        self.assert_malformed("a|a|", 3)
        self.assert_malformed("aaaaaaaa|aaaa|", 13)

    def test_too_many_points(self):
        self.assertEqual(read_diagram("a" * 8 + "|")[0], 8)
        self.assertEqual(read_diagram("|" + "a" * 8)[1], 8)
        self.assertEqual(read_diagram("a" * 8 + "|" + "a" * 4)[:2], (8, 4))
        self.assertEqual(read_diagram("a" * 5 + "|" + "a" * 7)[:2], (5, 7))
        self.assert_malformed("a" * 9, 8)
        self.assert_malformed("a" * 9 + "|", 8)
        self.assert_malformed("|" + "a" * 9, 9)
        self.assert_malformed("a" * 8 + "|" + "a" * 5, 13)
        self.assert_malformed("a" * 5 + "|" + "a" * 8, 13)
        self.assert_malformed("a" * 4 + "|" + "a" * 9, 13)
        self.assert_malformed("abcdefghi|", 8)
        self.assert_malformed("abcdefgh|ijklm", 13)
        self.assert_malformed("a" * 5000, 8)
