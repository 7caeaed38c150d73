"""Point [280]: lines, words, names and the integers of [281]."""

import itertools
import unittest

from threadworth.lines import is_name, number_in, words_of

BAD_SIGNS = ("\t", "\n", "\r", "\x00", "\x1f", "\x7f", "\x80", "\xa0", "\xe9", "\u2003", "\u0661")


class WordsTest(unittest.TestCase):

    def test_words(self):
        for line, due in (
            ("a", ["a"]), ("sum a 0 2", ["sum", "a", "0", "2"]), ("! ~", ["!", "~"]),
            ("|", ["|"]), ("a|a -1/2", ["a|a", "-1/2"]), ("x" * 5000, ["x" * 5000]),
        ):
            self.assertEqual(words_of(line), due)
        signs = "".join(chr(k) for k in range(33, 127))
        self.assertEqual(words_of(signs + " " + signs), [signs, signs])
        self.assertEqual(words_of(" ".join(signs)), list(signs))

    def test_a_space_too_many_at_each_place(self):
        line = "plus ab c d"
        for at in range(len(line) + 1):
            wide = line[:at] + " " + line[at:]
            if at in (0, len(line)) or " " in line[at - 1:at + 1]:
                self.assertIs(words_of(wide), None, wide)
            else:
                self.assertEqual(len(words_of(wide)), 5)
        for line in ("", " ", "  ", " a", "a ", "a  b", "a   b", " a b "):
            self.assertIs(words_of(line), None)

    def test_other_characters(self):
        for sign in BAD_SIGNS:
            for line in (sign, "a" + sign, sign + "a", "a b" + sign + " c", "a " + sign + " b"):
                self.assertIs(words_of(line), None, repr(line))

    def test_no_list_is_shared(self):
        words_of("a b").clear()
        self.assertEqual(words_of("a b"), ["a", "b"])


class NameTest(unittest.TestCase):

    def test_names(self):
        for word in ("a", "z", "abcdefghijkl", "zzzzzzzzzzzz", "sum", "nopqrstuvwx", "yz"):
            self.assertIs(is_name(word), True)
        for word in ("", "abcdefghijklm", "A", "aB", "a1", "1", "a-", "a b", " a", "a\n", "\xe9",
                     "a_", "|", "\xdf", "a" * 1000):
            self.assertIs(is_name(word), False)


class NumberTest(unittest.TestCase):

    def test_integers_from_0_to_99(self):
        for k in range(100):
            self.assertEqual(number_in(str(k)), k)
        for word in ("00", "01", "007", "09", "100", "999", "-1", "-0", "+1", "", " 1", "1 ", "1\n",
                     "1.0", "1/1", "a", "0x1", "1_0", "\u0661", "\xb2", "1" * 5000, "-", "--1"):
            self.assertIs(number_in(word), None, word)

    def test_all_words_of_two_signs(self):
        signs = [chr(k) for k in range(32, 127)]
        found = [
            number_in(one + other) for one, other in itertools.product(signs, signs)
        ]
        self.assertEqual([k for k in found if k is not None], list(range(10, 100)))
