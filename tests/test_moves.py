"""Points [64] to [66] and the example [68]: steps and chains."""

import itertools
import random
import unittest

from tests.helpers import Unchanged, any_word, word_by_hand
from threadworth.diagrams import FAMILIES
from threadworth.errors import BadNumber, Malformed, NoAnswer, NotWord
from threadworth.moves import rules, stepped, steps_of, undone, walked
from threadworth.words import diagram_of, is_word, letters, read_word

# The table of [65], as it stands there.
TABLE = """
| `s0 s0` | no letters | 0 |
| `s0 s1 s0` | `s1 s0 s1` | 0 |
| `e0 e0` | `e0` | 1 |
| `e0 s0` | `e0` | 0 |
| `s0 e0` | `e0` | 0 |
| `e0 e1 e0` | `e0` | 0 |
| `e1 e0 e1` | `e1` | 0 |
| `s0 e1 e0` | `s1 e0` | 0 |
| `e0 e1 s0` | `e0 s1` | 0 |
| `p0 p0` | `p0` | 1 |
| `s0 p0` | `p1 s0` | 0 |
| `s0 p0 p1` | `p0 p1` | 0 |
| `b0 b0` | `b0` | 0 |
| `b0 s0` | `b0` | 0 |
| `s0 b0` | `b0` | 0 |
| `b0 p0 b0` | `b0` | 0 |
| `p0 b0 p0` | `p0` | 0 |
| `b0 b1` | `b1 b0` | 0 |
| `s0 s1 b0` | `b1 s0 s1` | 0 |
| `e0 p0` | `e0 p1` | 0 |
| `p0 e0` | `p1 e0` | 0 |
| `e0 p0 e0` | `e0` | 1 |
| `p0 e0 p0` | `p0 p1` | 0 |
| `b0 e0` | `e0` | 0 |
| `e0 b0` | `e0` | 0 |
| `e0 b1 e0` | `e0` | 0 |
"""


def word(text):
    return tuple((part[0], int(part[1:])) for part in text.split())


def side(cell):
    cell = cell.strip()
    return () if cell == "no letters" else word(cell.strip("`"))


def told_rules():
    rows = [row.split("|")[1:4] for row in TABLE.strip().split("\n")]
    return [(side(left), side(right), int(loops)) for left, right, loops in rows]


RULES = told_rules()


def shifted(letters_of_side, i):
    return tuple((kind, k + i) for kind, k in letters_of_side)


def is_letter(n, letter):
    kind, i = letter
    return 0 <= i < (n if kind == "p" else n - 1)


def step_by_hand(n, letters_of_word, step):
    """The word and the loops of a step by the words of [64], or None."""
    if step[0] == "apart":
        at = step[1]
        if at < 0 or at + 1 >= len(letters_of_word):
            return None
        one, other = letters_of_word[at], letters_of_word[at + 1]
        sets = [{i} if kind == "p" else {i, i + 1} for kind, i in (one, other)]
        if sets[0] & sets[1]:
            return None
        made = letters_of_word[:at] + (other, one) + letters_of_word[at + 2:]
        return made, 0
    name, number, at, i = step
    if number < 0 or number >= 26 or at < 0:
        return None
    left, right, loops = RULES[number]
    if name == "back":
        left, right, loops = right, left, -loops
    left, right = shifted(left, i), shifted(right, i)
    if not all(is_letter(n, letter) for letter in left + right):
        return None
    if at + len(left) > len(letters_of_word) or letters_of_word[at:at + len(left)] != left:
        return None
    made = letters_of_word[:at] + right + letters_of_word[at + len(left):]
    return (made, loops) if len(made) <= 60 else None


def all_steps(size, n, beyond=0):
    """Steps in the order of steps_of, for numbers that go a bit beyond."""
    low, high = -beyond, beyond
    steps = [("apart", at) for at in range(low, size + high)]
    for name in ("rule", "back"):
        steps += [
            (name, number, at, i) for number in range(low, 26 + high)
            for at in range(low, size + 1 + high) for i in range(low, n + high)
        ]
    return steps


def any_chain(source, n, letters_of_word, size):
    """A chain of allowed steps, drawn."""
    chain = []
    for _ in range(size):
        steps = steps_of(n, letters_of_word)
        if not steps:
            break
        chain.append(source.choice(steps))
        letters_of_word, _ = stepped(n, letters_of_word, chain[-1])
    return chain


class RulesTest(unittest.TestCase):

    def test_the_table(self):
        self.assertEqual(rules(), RULES)
        self.assertEqual(len(rules()), 26)

    def test_results_share_no_list(self):
        first = rules()
        first.pop()
        self.assertEqual(len(rules()), 26)

    def test_each_rule_keeps_the_diagram_and_takes_its_loops(self):
        for left, right, loops in rules():
            found = 0
            for n, i in itertools.product(range(7), range(7)):
                one, other = shifted(left, i), shifted(right, i)
                if is_word(n, one) and is_word(n, other):
                    before, first = word_by_hand(n, one)
                    after, second = word_by_hand(n, other)
                    self.assertEqual(first, second)
                    self.assertEqual(before - after, loops)
                    found += 1
            self.assertGreaterEqual(found, 10)


class StepTest(unittest.TestCase):

    def check(self, n, letters_of_word, step):
        due = step_by_hand(n, letters_of_word, step)
        if due is None:
            self.assertRaises(NoAnswer, stepped, n, letters_of_word, step)
        else:
            self.assertEqual(stepped(n, letters_of_word, step), due, step)
        return due

    def test_steps_with_numbers_that_go_beyond(self):
        source = random.Random(64)
        for n in range(7):
            for size in (0, 1, 2, 5):
                letters_of_word = any_word(source, "parts", n, size)
                for step in all_steps(len(letters_of_word), n, 2):
                    self.check(n, letters_of_word, step)

    def test_each_rule_in_the_middle_of_a_word(self):
        for number, (left, right, loops) in enumerate(rules()):
            for i in range(4):
                start, end = (("p", 5),), (("s", 0), ("p", 3))
                one = start + shifted(left, i) + end
                other = start + shifted(right, i) + end
                step = ("rule", number, 1, i)
                back = ("back", number, 1, i)
                if is_word(6, one) and is_word(6, other):
                    self.assertEqual(stepped(6, one, step), (other, loops))
                    self.assertEqual(stepped(6, other, back), (one, -loops))
                for at in (-1, 0, 2, 3, 10 ** 40, -10 ** 40):
                    self.check(6, one, ("rule", number, at, i))
                    self.check(6, other, ("back", number, at, i))
                for j in (-1, i + 1, -10 ** 40, 10 ** 40):
                    self.check(6, one, ("rule", number, 1, j))
                    self.check(6, other, ("back", number, 1, j))

    def test_letters_that_are_apart(self):
        for one, other in itertools.product(letters("parts", 5), repeat=2):
            self.check(5, (one, other), ("apart", 0))
        self.assertEqual(stepped(4, word("s0 e2"), ("apart", 0)), (word("e2 s0"), 0))
        self.assertEqual(stepped(3, word("p2 b0 p1"), ("apart", 0)), (word("b0 p2 p1"), 0))
        self.assertRaises(NoAnswer, stepped, 3, word("p2 b0 p1"), ("apart", 1))
        self.assertRaises(NoAnswer, stepped, 3, word("p2 p2"), ("apart", 0))
        self.assertEqual(stepped(3, word("p2 p1"), ("apart", 0)), (word("p1 p2"), 0))
        for at in (-1, -2, 1, 2, 10 ** 40):
            self.assertRaises(NoAnswer, stepped, 4, word("s0 e2"), ("apart", at))
        self.assertRaises(NoAnswer, stepped, 4, (), ("apart", 0))
        self.assertRaises(NoAnswer, stepped, 4, word("s0"), ("apart", 0))

    def test_letters_that_there_are_not(self):
        # e0 is a letter for 2 strands, but e1 and b1 are none.
        for number in (5, 25):
            self.assertRaises(NoAnswer, stepped, 2, word("e0"), ("back", number, 0, 0))
            self.assertEqual(len(stepped(3, word("e0"), ("back", number, 0, 0))[0]), 3)
        self.assertRaises(NoAnswer, stepped, 1, word("p0"), ("back", 16, 0, 0))
        self.assertRaises(NoAnswer, stepped, 1, (), ("back", 0, 0, 0))
        self.assertRaises(NoAnswer, stepped, 2, (), ("back", 0, 0, 1))
        self.assertRaises(NoAnswer, stepped, 2, (), ("back", 0, 0, -1))
        self.assertEqual(stepped(2, (), ("back", 0, 0, 0)), (word("s0 s0"), 0))

    def test_the_side_without_letters_has_each_place(self):
        for at in range(3):
            due = word("p0 p1")[:at] + word("s1 s1") + word("p0 p1")[at:]
            self.assertEqual(stepped(3, word("p0 p1"), ("back", 0, at, 1)), (due, 0))
        for at in (-1, 3, 4):
            self.assertRaises(NoAnswer, stepped, 3, word("p0 p1"), ("back", 0, at, 1))

    def test_60_letters_and_61(self):
        for size, allowed in ((57, True), (58, True), (59, False), (60, False)):
            letters_of_word = word("e0") * size
            for step in (("back", 0, 3, 0), ("back", 5, 3, 0), ("back", 0, size, 0)):
                if allowed:
                    made, _ = stepped(3, letters_of_word, step)
                    self.assertEqual(len(made), size + 2)
                else:
                    self.assertRaises(NoAnswer, stepped, 3, letters_of_word, step)
        self.assertEqual(stepped(3, word("e0") * 59, ("back", 2, 0, 0)), (word("e0") * 60, -1))
        self.assertRaises(NoAnswer, stepped, 3, word("e0") * 60, ("back", 2, 0, 0))
        self.assertEqual(stepped(3, word("e0") * 60, ("rule", 2, 58, 0)), (word("e0") * 59, 1))
        swapped = word("p0 p2") * 30
        self.assertEqual(len(stepped(3, swapped, ("apart", 58))[0]), 60)

    def test_errors_in_order(self):
        for function in (stepped, walked, undone):
            wrong = ("rule", 99, 0, 0) if function is stepped else [("rule", 99, 0, 0)]
            for n in (-1, 7):
                self.assertRaises(BadNumber, function, n, word("s9"), wrong)
            self.assertRaises(NotWord, function, 2, word("s1"), wrong)
            self.assertRaises(NotWord, function, 2, word("s0") * 61, wrong)
        self.assertRaises(BadNumber, steps_of, 7, word("s9"))
        self.assertRaises(BadNumber, steps_of, -1, ())
        self.assertRaises(NotWord, steps_of, 2, word("s1"))


class StepsTest(unittest.TestCase):

    def test_all_steps_in_order(self):
        source = random.Random(65)
        for family in FAMILIES:
            for n in range(7):
                for size in (0, 1, 4, 8):
                    letters_of_word = any_word(source, family, n, size)
                    due = [
                        step for step in all_steps(len(letters_of_word), n)
                        if step_by_hand(n, letters_of_word, step)
                    ]
                    self.assertEqual(steps_of(n, letters_of_word), due)

    def test_long_words(self):
        letters_of_word = word("s0 p3 b1 e4") * 15
        for size in (58, 59, 60):
            cut_off = letters_of_word[:size]
            due = [step for step in all_steps(size, 6) if step_by_hand(6, cut_off, step)]
            self.assertEqual(steps_of(6, cut_off), due)

    def test_no_strands_have_no_steps(self):
        self.assertEqual(steps_of(0, ()), [])
        self.assertEqual(steps_of(1, ()), [])
        self.assertEqual(steps_of(2, ()), [("back", 0, 0, 0)])

    def test_steps_keep_the_diagram_and_tell_the_loops(self):
        source = random.Random(66)
        for n in range(2, 7):
            letters_of_word = any_word(source, "parts", n, 7)
            before, made = word_by_hand(n, letters_of_word)
            for step in steps_of(n, letters_of_word):
                after_word, loops = stepped(n, letters_of_word, step)
                self.assertEqual(word_by_hand(n, after_word), (before - loops, made))


class ChainTest(unittest.TestCase):

    def test_chains_keep_the_diagram_and_lead_back(self):
        source = random.Random(67)
        for family, n in itertools.product(FAMILIES, range(2, 6)):
            start = any_word(source, family, n, 6)
            chain = any_chain(source, n, start, 12)
            with Unchanged(self, chain):
                end, loops = walked(n, start, chain)
                back = undone(n, start, chain)
            before, made = diagram_of(n, start)
            after, same = diagram_of(n, end)
            self.assertEqual(made, same)
            self.assertEqual(before - after, loops)
            self.assertEqual(len(back), len(chain))
            self.assertEqual(walked(n, end, back), (start, -loops))
            self.assertEqual(undone(n, end, back), chain)

    def test_the_sum_of_the_steps(self):
        chain = [("rule", 2, 0, 0), ("rule", 2, 0, 0), ("back", 9, 1, 2), ("apart", 0)]
        end, loops = walked(3, word("e0 e0 e0 p2"), chain)
        self.assertEqual((end, loops), (word("p2 e0 p2"), 1))
        self.assertEqual(undone(3, word("e0 e0 e0 p2"), chain), [
            ("apart", 0), ("rule", 9, 1, 2), ("back", 2, 0, 0), ("back", 2, 0, 0),
        ])

    def test_the_empty_chain(self):
        self.assertEqual(walked(2, word("s0"), []), (word("s0"), 0))
        self.assertEqual(walked(0, (), []), ((), 0))
        self.assertEqual(undone(2, word("s0"), []), [])

    def test_the_first_step_that_is_not_allowed(self):
        right = [("rule", 0, 0, 0), ("back", 0, 0, 1), ("rule", 0, 0, 1), ("back", 0, 1, 0)]
        start = word("s0 s0 p0")
        walked(3, start, right)
        for at in range(5):
            for wrong in (("rule", 0, 0, 2), ("apart", -1), ("rule", 26, 0, 0), ("back", -1, 0, 0)):
                chain = right[:at] + [wrong, wrong] + right[at:]
                for function in (walked, undone):
                    with self.assertRaises(Malformed) as caught:
                        function(3, start, chain)
                    self.assertEqual(caught.exception.at, at)

    def test_example(self):
        chain = [("rule", 3, 0, 0), ("rule", 2, 0, 0)]
        self.assertEqual(walked(2, read_word(2, "e0 s0 e0"), chain), (word("e0"), 1))
        self.assertEqual(
            undone(2, read_word(2, "e0 s0 e0"), chain), [("back", 2, 0, 0), ("back", 3, 0, 0)]
        )
        self.assertEqual(
            walked(2, word("e0"), [("back", 2, 0, 0), ("back", 3, 0, 0)]),
            (word("e0 s0 e0"), -1),
        )
