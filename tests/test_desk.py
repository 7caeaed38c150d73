"""Points [280] to [283]: the desk."""

import itertools
import random
import unittest

from tests.helpers import Unchanged, any_diagram, any_terms, any_word, family_diagrams
from threadworth import alike, colours, falling, growing, numbers, powers, putting, tables, through
from threadworth import words as words_module
from threadworth.basics import cut, hook, swap, unit
from threadworth.desk import Desk
from threadworth.diagrams import FAMILIES, counted, listed
from threadworth.errors import WorthError
from threadworth.sums import Sum, text_of_sum, unit_sum, zero_sum
from threadworth.texts import text_of
from threadworth.wordsof import first_word

# For each command the kinds of the words behind it, as the table of [281] has them.
TABLE = {
    "sum": "NT", "drop": "L", "show": "L", "plus": "NLM", "less": "NLM", "times": "NLM",
    "beside": "NLM", "scale": "NLW", "over": "NL", "grow": "NL", "shrink": "NL", "plain": "NLF",
    "few": "NL", "rest": "NL", "worth": "L", "at": "LD", "in": "LF", "lost": "LF", "dark": "L",
    "alike": "LMF", "decide": "LMF", "put": "DE", "closing": "D", "through": "D", "halves": "D",
    "power": "DX", "word": "FD", "run": "XT", "count": "FXY", "spoilt": "FXY",
}
# Words that are right, and are not refused with the sums of `some_desk`.
GOOD = {
    "N": "n", "L": "a", "M": "b", "W": "-1/2", "F": "parts", "D": "ab|ba", "E": "aa|bb",
    "X": "2", "Y": "1",
}
WORLDS = ((0, 2), (0, 0), (0, -1), (0, 3), (2, 1), (3, 0), (5, 4))


def some_desk():
    desk = Desk()
    desk.answer("sum a 0 2 2 2 1 ab|ab 3 ab|ba")
    desk.answer("sum b 0 2 2 2 -1/3 ab|ba 1 ab|cd")
    return desk


def good_line(command):
    words = [command]
    for kind in TABLE[command]:
        if kind != "T":
            words.append(GOOD[kind])
    if command == "sum":
        words += ["0", "1", "0", "0"]
    if command == "run":
        words += ["e0", "s0", "e0"]
    if command == "rest":
        words[2] = "a"
    return " ".join(words)


def state(desk):
    return {name: text_of_sum(desk.thing(name)) for name in desk.names()}


def any_sum(source, world, n, m, many=3):
    diagrams = [any_diagram(source, n, m) for _ in range(many)]
    return Sum(world, n, m, any_terms(source, world, diagrams, many))


def desk_with(**sums):
    desk = Desk()
    for name, one in sums.items():
        assert desk.answer("sum " + name + " " + text_of_sum(one)) == str(len(one))
    return desk


class Case(unittest.TestCase):

    def check_made(self, desk, line, make):
        """Check a line that makes a sum, or that an error of the operation refuses it."""
        before = state(desk)
        name = line.split(" ")[1]
        try:
            due = make()
        except WorthError:
            self.assertEqual(desk.answer(line), "refused", line)
            self.assertEqual(state(desk), before)
            return False
        self.assertEqual(desk.answer(line), str(len(due)), line)
        self.assertEqual(desk.thing(name), due)
        self.assertEqual(state(desk), before | {name: text_of_sum(due)})
        return True

    def check_told(self, desk, line, tell):
        """Check a line that only tells something, or is refused."""
        before = state(desk)
        try:
            due = tell()
        except WorthError:
            due = "refused"
        self.assertEqual(desk.answer(line), due, line)
        self.assertEqual(state(desk), before)
        return due != "refused"


class SumsTest(Case):

    def test_a_new_desk_has_none(self):
        desk = Desk()
        self.assertEqual(desk.names(), [])
        self.assertIs(desk.thing("a"), None)
        self.assertIs(desk.thing("not a name"), None)
        self.assertEqual(desk.answers([]), [])

    def test_sum_show_and_drop(self):
        desk = Desk()
        self.assertEqual(desk.answer("sum b 0 2 1 1 1 a|a -1/2 a|b"), "2")
        self.assertEqual(desk.answer("show b"), "0 2 1 1 1 a|a -1/2 a|b")
        self.assertEqual(desk.answer("sum a 5 4 0 0"), "0")
        self.assertEqual(desk.answer("show a"), "5 4 0 0")
        self.assertEqual(desk.answer("sum zzzzzzzzzzzz 0 -20 0 0 3/7 |"), "1")
        self.assertEqual(desk.answer("show zzzzzzzzzzzz"), "0 -20 0 0 3/7 |")
        self.assertEqual(desk.names(), ["a", "b", "zzzzzzzzzzzz"])
        self.assertEqual(desk.thing("a"), zero_sum((5, 4), 0, 0))
        # What stood there before is gone.
        self.assertEqual(desk.answer("sum b 3 1 1 0 2 a|"), "1")
        self.assertEqual(desk.answer("show b"), "3 1 1 0 2 a|")
        self.assertEqual(desk.answer("drop b"), "ok")
        self.assertEqual(desk.names(), ["a", "zzzzzzzzzzzz"])
        self.assertIs(desk.thing("b"), None)
        self.assertEqual(desk.answer("show b"), "unknown b")
        self.assertEqual(desk.answer("drop b"), "unknown b")
        for wrong in ("", "0", "0 2", "0 2 1", "0 21 1 1", "0 2 4 5", "0 2 1 1 1", "0 2 1 1 1 a|b 1",
                      "0 2 1 1 0 a|a", "0 2 1 1 2/4 a|a", "0 2 1 1 1 a|b 1 a|a", "00 2 1 1",
                      "0 2 1 1 1 aa|", "4 1 1 1"):
            line = ("sum x " + wrong).rstrip(" ")
            self.assertEqual(desk.answer(line), "refused", line)
        self.assertEqual(desk.names(), ["a", "zzzzzzzzzzzz"])

    def test_results_share_no_list(self):
        desk = some_desk()
        desk.names().clear()
        self.assertEqual(desk.names(), ["a", "b"])

    def test_operations_of_two_sums(self):
        source = random.Random(281)
        made = 0
        for world in WORLDS:
            for n, m, q in ((1, 1, 1), (2, 2, 2), (2, 1, 2), (0, 4, 4), (3, 1, 5)):
                one, other = any_sum(source, world, n, m), any_sum(source, world, m, q)
                third = any_sum(source, world, n, m)
                desk = desk_with(a=one, b=other, c=third)
                for line, make in (
                    ("plus x a c", lambda: one + third), ("less x a c", lambda: one - third),
                    ("plus x a b", lambda: one + other), ("less x b a", lambda: other - one),
                    ("times x a b", lambda: one * other), ("times x b a", lambda: other * one),
                    ("times x a c", lambda: one * third),
                    ("beside x a b", lambda: one.beside(other)),
                    ("beside x b c", lambda: other.beside(third)),
                    ("plus a a a", lambda: one + one), ("times b b b", lambda: other * other),
                    ("less c c c", lambda: third - third),
                ):
                    made += self.check_made(desk, line, make)
        self.assertGreater(made, 150)

    def test_operations_of_one_sum(self):
        source = random.Random(282)
        made = 0
        for world in WORLDS:
            for n, m in ((1, 1), (2, 2), (2, 1), (0, 3), (4, 4), (8, 0)):
                one = any_sum(source, world, n, m)
                desk = desk_with(a=one)
                lines = [
                    ("over x a", one.over), ("grow x a", lambda: growing.grown(one)),
                    ("shrink x a", lambda: growing.shrunk(one)),
                    ("few x a", lambda: colours.few_blocks(one)),
                    ("rest x a", lambda: falling.rest_of(one)), ("over a a", one.over),
                ]
                for line, make in lines:
                    if n + m < 8 or line[:3] in ("ove", "gro", "shr"):
                        made += self.check_made(desk, line, make)
        self.assertGreater(made, 100)

    def test_numbers(self):
        for world in ((0, 2), (5, 4)):
            one = Sum(world, 2, 2, [(unit(2), (1, 1)), (swap(2, 0), (2, 1))])
            for word in ("0", "1", "-1", "-3/7", "4", "5", "2/4", "1/0", "-0", "+1", "x", "a|a", "0/1",
                         "9" * 60, "9" * 61, "-" + "9" * 60, "1/" + "7" * 60, "1/" + "7" * 61):
                desk = desk_with(a=one)
                self.check_made(
                    desk, "scale x a " + word,
                    lambda: one.scaled(numbers.read_number(world, word))
                )

    def test_plain_sums_and_rests(self):
        source = random.Random(283)
        for world in WORLDS:
            for family in FAMILIES + ("part",):
                diagrams = family_diagrams(family if family in FAMILIES else "parts", 2, 2)
                one = Sum(world, 2, 2, any_terms(source, world, diagrams, 3))
                desk = desk_with(a=one)
                self.check_made(desk, "plain x a " + family, lambda: alike.plain(one, family))
                self.check_made(desk, "plain a a " + family, lambda: alike.plain(one, family))
            for n in range(5):
                one = Sum(world, n, n, any_terms(source, world, listed("threads", n, n), 3))
                desk = desk_with(a=one)
                self.check_made(desk, "rest x a", lambda: falling.rest_of(one))

    def test_long_numbers(self):
        desk = Desk()
        desk.answer("sum a 0 2 0 0 " + "7" * 300 + " |")
        for _ in range(5):
            self.assertEqual(desk.answer("times a a a"), "1")
        self.assertEqual(desk.answer("show a"), text_of_sum(desk.thing("a")))
        self.assertGreater(len(desk.answer("worth a")), 9000)


class ToldTest(Case):

    def test_worths_and_numbers(self):
        source = random.Random(284)
        for world in WORLDS:
            for n, m in ((1, 1), (2, 2), (2, 1), (0, 0), (3, 3)):
                one = any_sum(source, world, n, m)
                desk = desk_with(a=one)
                self.check_told(
                    desk, "worth a", lambda: numbers.number_text(world, one.worth())
                )
                for diagram in [c for c, _ in one.terms()] + [unit(n), cut(1, 0), hook(2, 0)]:
                    self.check_told(
                        desk, "at a " + text_of(diagram),
                        lambda: numbers.number_text(world, one.at(diagram))
                    )
                for word in ("x", "aa", "a|c", "b|a", "a|a|", "||"):
                    self.assertEqual(desk.answer("at a " + word), "refused")

    def test_questions_of_a_family(self):
        source = random.Random(285)
        seen = {}
        for world in WORLDS:
            for family in FAMILIES + ("part", "7"):
                diagrams = family_diagrams(family if family in FAMILIES else "parts", 2, 2)
                one, other = [
                    Sum(world, 2, 2, any_terms(source, world, diagrams, 2)) for _ in range(2)
                ]
                if family in FAMILIES:
                    basis = alike.lost_basis(world, family, 2, 2)
                    other = one + basis[0] if basis and source.random() < 0.6 else other
                desk = desk_with(a=one, b=other, c=unit_sum(world, 3))
                for line, tell in (
                    ("in a " + family, lambda: one.is_in(family)),
                    ("lost a " + family, lambda: alike.is_lost(one, family)),
                    ("dark a", lambda: colours.is_without_colours(one)),
                ):
                    self.check_told(desk, line, lambda: "yes" if tell() else "no")
                def first_apart():
                    found = alike.apart(one, other, family)
                    return "yes" if found is None else text_of(found)
                self.check_told(desk, "alike a b " + family, first_apart)
                self.check_told(
                    desk, "decide a b " + family, lambda: alike.decide(one, other, family)[0]
                )
                self.assertEqual(desk.answer("alike a c " + family), "refused")
                self.assertEqual(desk.answer("decide c b " + family), "refused")
                told = desk.answers(["alike a b " + family, "decide a b " + family])
                seen[told[1]] = seen.get(told[1], 0) + 1
                # [283]
                if "refused" not in told:
                    self.assertEqual(told[0] == "yes", told[1] == "alike")
                else:
                    self.assertEqual(told, ["refused", "refused"])
        self.assertEqual(sorted(seen), ["alike", "apart", "refused"])
        self.assertGreater(min(seen.values()), 5)

    def test_dark_sums(self):
        desk = Desk()
        self.assertEqual(desk.answers([
            "sum a 0 1 1 1 1 a|a -1 a|b", "dark a", "sum a 0 2 1 1 1 a|a -1 a|b", "dark a",
            "sum a 0 0 1 1", "dark a", "sum a 3 1 1 1", "dark a", "sum a 0 4 3 3", "dark a",
        ]), ["2", "yes", "2", "no", "0", "refused", "0", "refused", "0", "refused"])

    def test_diagrams(self):
        source = random.Random(286)
        desk = Desk()
        tried = [any_diagram(source, n, m) for n, m in (
            (0, 0), (1, 1), (2, 2), (2, 3), (3, 2), (6, 6), (8, 4), (4, 8), (0, 8), (3, 3), (4, 4)
        ) for _ in range(4)] + [hook(2, 0), swap(2, 0), unit(6)]
        told = 0
        for one, other in itertools.product(tried, repeat=2):
            def pieces():
                loops, made = putting.put(one, other)
                return str(loops) + " " + text_of(made)
            told += self.check_told(desk, "put " + text_of(one) + " " + text_of(other), pieces)
        self.assertGreater(told, 100)
        for one in tried:
            text = text_of(one)
            self.check_told(desk, "closing " + text, lambda: str(putting.closing(one)))
            self.check_told(desk, "through " + text, lambda: str(through.through(one)))
            self.check_told(desk, "halves " + text, lambda: " ".join(
                [text_of(through.upper(one)), text_of(through.middle(one)),
                 text_of(through.lower(one))]
            ))
            for count in (0, 1, 2, 10, 99):
                def powered():
                    loops, made = powers.power(one, count)
                    return str(loops) + " " + text_of(made)
                self.check_told(desk, "power " + text + " " + str(count), powered)
        for command in ("closing", "through", "halves"):
            for word in ("aa", "b|", "a|a|a", "abc|abd|", "A|A", "a|", "ab|c"):
                due = "refused"
                if word == "a|" and command != "closing":
                    due = {"through": "0", "halves": "a| | |"}[command]
                if word == "ab|c" and command != "closing":
                    due = {"through": "0", "halves": "ab| | |a"}[command]
                self.assertEqual(desk.answer(command + " " + word), due)
        self.assertEqual(desk.answer("put a|a b|b"), "refused")
        self.assertEqual(desk.answer("put x a|a"), "refused")
        self.assertEqual(desk.answer("halves aab|bcc"), "aab|b a|a a|abb")
        self.assertEqual(desk.answer("power aa|bb 10"), "9 aa|bb")

    def test_words(self):
        source = random.Random(287)
        desk = Desk()
        for family in FAMILIES:
            for n in (0, 1, 2, 3):
                for diagram in source.sample(listed("parts", n, n), min(12, len(listed("parts", n, n)))):
                    self.check_told(desk, "word " + family + " " + text_of(diagram), lambda: (
                        words_module.word_text(n, first_word(family, diagram))
                    ))
        self.assertEqual(desk.answer("word parts a|a"), "-")
        self.assertEqual(desk.answer("word pairs aa|bb"), "e0")
        self.assertEqual(desk.answer("word pair aa|bb"), "refused")
        self.assertEqual(desk.answer("word pairs ab|cd"), "refused")
        self.assertEqual(desk.answer("word parts a|ab"), "refused")
        self.assertEqual(desk.answer("word parts abcd|abcd"), "refused")
        for n in range(7):
            for size in (0, 1, 5, 60, 61):
                told = any_word(source, "parts", n, min(size, 60))
                text = words_module.word_text(n, told)
                if size == 61 and told:
                    text += " p0"
                def ran():
                    loops, made = words_module.diagram_of(n, words_module.read_word(n, text))
                    return str(loops) + " " + text_of(made)
                self.check_told(desk, "run " + str(n) + " " + text, ran)
        for line, due in (
            ("run 2 -", "0 ab|ab"), ("run 0 -", "0 |"), ("run 2 e0 s0 e0", "1 aa|bb"), ("run 2", "refused"),
            ("run 2 - -", "refused"), ("run 2 - e0", "refused"), ("run 2 e1", "refused"),
            ("run 7 -", "refused"), ("run 99 s0", "refused"), ("run 2 e00", "refused"),
        ):
            self.assertEqual(desk.answer(line), due, line)

    def test_counts_and_spoilt(self):
        desk = Desk()
        for family in FAMILIES + ("part",):
            for n, m in itertools.product((0, 1, 2, 3, 6, 8, 9, 12, 99), repeat=2):
                self.check_told(
                    desk, "count " + family + " " + str(n) + " " + str(m),
                    lambda: str(counted(family, n, m))
                )
                if n + m <= 5 or n > 8:
                    def told():
                        found = [str(x) for x, _ in tables.spoilt(family, n, m)]
                        return " ".join(found) if found else "empty"
                    self.check_told(desk, "spoilt " + family + " " + str(n) + " " + str(m), told)
        for line, due in (
            ("spoilt pairs 2 2", "-2 0 1"), ("spoilt parts 0 0", "empty"), ("spoilt pairs 1 2", "empty"),
            ("spoilt parts 4 4", "refused"), ("count parts 6 6", "4213597"),
        ):
            self.assertEqual(desk.answer(line), due)


class BadTest(Case):

    def check_bad(self, line):
        desk = some_desk()
        before = state(desk)
        self.assertEqual(desk.answer(line), "bad", repr(line))
        self.assertEqual(state(desk), before)

    def test_each_command_with_good_words(self):
        for command in TABLE:
            answer = some_desk().answer(good_line(command))
            self.assertNotIn(answer.split(" ")[0], ("bad", "unknown", "refused"), command)

    def test_a_word_too_few_and_too_many(self):
        for command in TABLE:
            words = good_line(command).split(" ")
            if "T" not in TABLE[command]:
                self.check_bad(" ".join(words + ["a"]))
                self.check_bad(" ".join(words + words[-1:]))
                for size in range(1, len(words)):
                    self.check_bad(" ".join(words[:size]))
            else:
                self.check_bad(command)
                # Any number of words is right, none, too, but they tell no sum and no word.
                self.assertEqual(some_desk().answer(" ".join(words[:2])), "refused")
                self.assertEqual(some_desk().answer(" ".join(words + ["-7"])), "refused")

    def test_no_command(self):
        for word in ("summ", "Sum", "SUM", "", "a", "-", "plus1", "x", "help", "names", "word:"):
            self.check_bad((word + " n a b").strip(" "))
            self.check_bad(word)

    def test_malformed_lines(self):
        for command in TABLE:
            line = good_line(command)
            for at, sign in enumerate(line + " "):
                if sign == " " or at == 0:
                    self.check_bad(line[:at] + " " + line[at:])
                for other in ("\t", "\n", "\x7f", "\xe9", "\x1f"):
                    self.check_bad(line[:at] + other + line[at:])
                    self.check_bad(line[:at] + other + line[at + 1:])
        self.check_bad("")
        self.check_bad(" ")

    def test_words_that_must_be_names(self):
        for command, kinds in TABLE.items():
            words = good_line(command).split(" ")
            for at, kind in enumerate(kinds):
                if kind in "NLM":
                    for wrong in ("A", "a1", "abcdefghijklm", "1", "a-b", "|"):
                        self.check_bad(" ".join(words[:at + 1] + [wrong] + words[at + 2:]))
                    right = words[:at + 1] + ["abcdefghijkl"] + words[at + 2:]
                    due = "unknown abcdefghijkl" if kind != "N" else None
                    answer = some_desk().answer(" ".join(right))
                    if due:
                        self.assertEqual(answer, due)
                    else:
                        self.assertNotIn(answer.split(" ")[0], ("bad", "unknown", "refused"))

    def test_words_that_must_be_integers(self):
        for command, kinds in TABLE.items():
            words = good_line(command).split(" ")
            for at, kind in enumerate(kinds):
                if kind in "XY":
                    for wrong in ("00", "01", "100", "-1", "+1", "1/1", "x", "1.0", "999"):
                        self.check_bad(" ".join(words[:at + 1] + [wrong] + words[at + 2:]))
                    for right in ("0", "9", "10", "99"):
                        line = " ".join(words[:at + 1] + [right] + words[at + 2:])
                        self.assertNotEqual(some_desk().answer(line), "bad", line)

    def test_the_first_word_that_names_nothing(self):
        for line, due in (
            ("plus n x y", "unknown x"), ("plus n a y", "unknown y"), ("plus x x a", "unknown x"),
            ("plus n y x", "unknown y"), ("alike x y part", "unknown x"), ("alike a y z", "unknown y"),
            ("decide b y z", "unknown y"), ("at x nonsense", "unknown x"), ("scale n x 1/0", "unknown x"),
            ("show n", "unknown n"), ("drop abc", "unknown abc"), ("shrink n n", "unknown n"),
            ("in x x", "unknown x"), ("plain n x part", "unknown x"), ("beside n b n", "unknown n"),
        ):
            desk = some_desk()
            before = state(desk)
            self.assertEqual(desk.answer(line), due)
            self.assertEqual(state(desk), before)

    def test_bad_ahead_of_unknown_ahead_of_refused(self):
        for line, due in (
            ("at x zz|", "unknown x"), ("at X zz|", "bad"), ("at a zz|", "refused"),
            ("plus N x y", "bad"), ("plus n x Y", "bad"), ("plus n x", "bad"), ("alike x b part ", "bad"),
            ("alike x B part", "bad"), ("alike x b part", "unknown x"), ("alike a b part", "refused"),
            ("power zz 100", "bad"), ("power zz 99", "refused"), ("count part 9 00", "bad"),
            ("count part 9 0", "refused"), ("scale n x 1/0 1", "bad"), ("scale n x 1/0", "unknown x"),
            ("scale n a 1/0", "refused"), ("run 00 x9", "bad"), ("run 3 x9", "refused"),
            ("sum A nonsense", "bad"), ("sum n nonsense", "refused"),
        ):
            desk = some_desk()
            before = state(desk)
            self.assertEqual(desk.answer(line), due, line)
            self.assertEqual(state(desk), before)

    def test_what_is_refused_changes_nothing(self):
        for line in (
            "shrink a g", "plus a a c", "times a a c", "less b c b", "beside a d a", "grow a d",
            "scale a a 2/4", "plain a a pair", "rest a h", "few a e", "sum a 0 2 5 5", "plain b b threads",
        ):
            desk = some_desk()
            desk.answers([
                "sum c 0 1 2 2", "sum d 0 2 4 4", "sum e 5 2 2 2", "sum g 0 2 0 2", "sum h 0 2 2 2 1 aa|bb",
            ])
            before = state(desk)
            self.assertEqual(desk.answer(line), "refused", line)
            self.assertEqual(state(desk), before)


class AnswersTest(Case):

    LINES = (
        "sum a 0 2 2 2 1 ab|ab 3 ab|ba", "show a", "plus a a a", "show a", "bad line", "times b a a",
        "show b", "drop a", "show a", "alike b b parts", "over b b", "shrink c b", "worth c", "show ",
        "grow c c", "rest d c", "show d", "less b b b", "show b", "lost b threads", "worth",
    )

    def test_the_answers_are_those_of_single_lines(self):
        desk, other = Desk(), Desk()
        lines = list(self.LINES)
        with Unchanged(self, lines):
            found = desk.answers(lines)
        self.assertEqual(found, [other.answer(line) for line in lines])
        self.assertEqual(state(desk), state(other))

    def test_answers_do_not_depend_on_later_lines(self):
        # [283]
        due = Desk().answers(list(self.LINES))
        for size in range(len(self.LINES) + 1):
            self.assertEqual(Desk().answers(list(self.LINES[:size])), due[:size])

    def test_desks_do_not_share_their_sums(self):
        one, other = Desk(), Desk()
        one.answer("sum a 0 2 0 0")
        self.assertEqual(other.names(), [])
        self.assertEqual(other.answer("show a"), "unknown a")

    def test_drawn_lines(self):
        # Whatever a line is: it is answered, and each answer comes again at a new desk.
        source = random.Random(288)
        pool = list(TABLE) + ["a", "b", "c", "abcdefghijklm", "0", "1", "2", "00", "parts", "pairs",
                              "threads", "ab|ab", "aa|bb", "a|b", "|", "-1/2", "s0", "e0", "-", "x y"]
        lines = []
        for _ in range(1500):
            if source.random() < 0.5:
                lines.append(good_line(source.choice(list(TABLE))).replace(" n", " a"))
            else:
                lines.append(" ".join(source.choice(pool) for _ in range(source.randrange(1, 6))))
        first = Desk()
        answers = first.answers(lines)
        self.assertEqual(Desk().answers(lines), answers)
        kinds = {answer.split(" ")[0] for answer in answers}
        self.assertTrue({"bad", "unknown", "refused", "yes", "ok"} <= kinds)
        self.assertTrue(all(32 <= ord(sign) <= 126 for answer in answers for sign in answer))
