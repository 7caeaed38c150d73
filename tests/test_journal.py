"""Points [300] to [304]: the journal."""

import random
import unittest

from tests.helpers import Unchanged
from tests.test_desk import GOOD, TABLE, good_line
from threadworth.desk import Desk
from threadworth.errors import BadJournal, OpenTrial
from threadworth.journal import Journal, attempt, resume

LINES = (
    "sum a 0 2 1 1 1 a|a -1/2 a|b", "show a", "", " show a", "times b a a", "show b", "shrink a a",
    "show a", "nonsense", "worth b", "drop a", "show a", "grow c b", "spoilt pairs 2 2", "> x", "< y",
)
NOT_RECORDED = ("a\n", "\n", "show a\t", "\x1f", "\x7f", "show \xe9", "a\r", "\u2028")


def pairs_text(lines, answers):
    return "".join("> " + line + "\n< " + answer + "\n" for line, answer in zip(lines, answers))


def filled(lines=LINES):
    journal = Journal()
    for line in lines:
        journal.answer(line)
    return journal


def some_lines(source, many):
    lines = []
    for _ in range(many):
        line = good_line(source.choice(list(TABLE)))
        if source.random() < 0.6:
            line = line.replace(" n", " " + GOOD["L"])
        lines.append(source.choice([line, line, "show a", "drop a", "sum b 0 2 2 2 1 ab|ab", line + " "]))
    return lines


class RecordTest(unittest.TestCase):

    def test_lines_and_answers_are_recorded(self):
        journal, desk = Journal(), Desk()
        self.assertEqual(journal.record(), "")
        self.assertEqual(journal.lines(), [])
        answers = []
        for k, line in enumerate(LINES):
            answers.append(desk.answer(line))
            self.assertEqual(journal.answer(line), answers[-1])
            self.assertEqual(journal.record(), pairs_text(LINES, answers))
            self.assertEqual(journal.lines(), list(LINES[:k + 1]))

    def test_bad_lines_are_recorded_but_not_what_cannot_be(self):
        journal = Journal()
        for line in ("", " ", "  x", "what", "show ~"):
            self.assertEqual(journal.answer(line), "bad")
        record = "> \n< bad\n>  \n< bad\n>   x\n< bad\n> what\n< bad\n> show ~\n< bad\n"
        self.assertEqual(journal.record(), record)
        for line in NOT_RECORDED:
            self.assertEqual(journal.answer(line), "bad")
            self.assertEqual(journal.record(), record)
            self.assertEqual(len(journal.lines()), 5)

    def test_what_cannot_be_recorded_changes_no_desk(self):
        journal = Journal()
        for line in ("sum a 0 2 0 0\n", "sum a 0 2 0 0\t", "sum\ta 0 2 0 0"):
            self.assertEqual(journal.answer(line), "bad")
        self.assertEqual(journal.answer("show a"), "unknown a")

    def test_no_list_is_shared(self):
        journal = filled()
        journal.lines().clear()
        self.assertEqual(journal.lines(), list(LINES))
        other = Journal()
        self.assertEqual(other.record(), "")
        self.assertEqual(other.answer("show b"), "unknown b")


class ResumeTest(unittest.TestCase):

    def test_a_record_that_is_cut_off_at_each_place(self):
        journal = filled()
        text = journal.record()
        rows = text.split("\n")[:-1]
        for cut in range(len(text) + 1):
            resumed = resume(text[:cut])
            whole = text[:cut].count("\n") // 2
            due = "".join(row + "\n" for row in rows[:2 * whole])
            self.assertEqual(resumed.record(), due)
            self.assertEqual(resumed.lines(), list(LINES[:whole]))

    def test_the_remaining_lines(self):
        source = random.Random(303)
        for _ in range(4):
            lines = some_lines(source, 14)
            journal = Journal()
            answers = [journal.answer(line) for line in lines]
            text = journal.record()
            for cut in range(0, len(text) + 1, 7):
                resumed = resume(text[:cut])
                done = len(resumed.lines())
                self.assertEqual([resumed.answer(line) for line in lines[done:]], answers[done:])
                self.assertEqual(resumed.record(), text)

    def test_behind_the_last_newline(self):
        text = filled().record()
        for more in ("x", "> ", "< ", ">", "> show a", "\t", "> \xe9", "\x00", "< wrong"):
            self.assertEqual(resume(text + more).record(), text)
            self.assertEqual(resume(more).record(), "")
        self.assertEqual(resume("").record(), "")

    def check_bad(self, rows, due):
        with self.assertRaises(BadJournal) as caught:
            resume("".join(row + "\n" for row in rows))
        self.assertEqual(caught.exception.row, due)

    def test_a_row_that_begins_wrongly(self):
        rows = filled().record().split("\n")[:-1]
        for at in range(len(rows)):
            due, other = ("> ", "< ") if at % 2 == 0 else ("< ", "> ")
            for wrong in ("", ">", "<", "x" + rows[at], rows[at][1:], due[0] + "x" + rows[at][2:],
                          other + rows[at][2:], " " + rows[at]):
                changed = rows[:at] + [wrong] + rows[at + 1:]
                self.check_bad(changed, at)
                self.check_bad(changed[:at + 1], at)

    def test_a_row_with_another_answer(self):
        rows = filled().record().split("\n")[:-1]
        for at in range(1, len(rows), 2):
            for wrong in (rows[at] + " ", rows[at] + "x", rows[at][:-1], "< ", rows[at] + "\t"):
                changed = rows[:at] + [wrong] + rows[at + 1:]
                self.check_bad(changed, at)
                # The first wrong row is told.
                changed[-2] = "x"
                self.check_bad(changed, min(at, len(rows) - 2))

    def test_a_row_of_a_line_that_cannot_be_recorded(self):
        rows = filled().record().split("\n")[:-1]
        for at in range(0, len(rows), 2):
            for sign in ("\t", "\x7f", "\xe9", "\r", "\x85", "\u2028"):
                changed = rows[:at] + [rows[at] + sign, "< bad"] + rows[at + 2:]
                self.check_bad(changed, at)
                self.check_bad(changed[:at + 1], at)

    def test_a_line_whose_answer_is_missing(self):
        text = "> sum a 0 2 0 0\n< 0\n"
        journal = resume(text + "> drop a\n")
        self.assertEqual(journal.record(), text)
        self.assertEqual(journal.answer("show a"), "0 2 0 0")
        self.check_bad(["> sum a 0 2 0 0", "< 0", "drop a"], 2)
        self.check_bad(["> sum a 0 2 0 0", "< 0", "> drop \x7f"], 2)
        self.check_bad(["< 0"], 0)
        self.check_bad([""], 0)
        self.assertEqual(resume("> drop a\n").record(), "")

    def test_lines_that_look_like_rows(self):
        journal = Journal()
        for line in ("> x", "< x", ">", "> > x", "< < "):
            journal.answer(line)
        self.assertEqual(resume(journal.record()).record(), journal.record())


class TrialTest(unittest.TestCase):

    def state(self, journal):
        found = [journal.record()]
        for name in ("a", "b", "c"):
            found.append(journal.answer("show " + name))
        return found

    def fresh(self):
        journal = Journal()
        journal.answer("sum a 0 2 1 1 1 a|a")
        journal.answer("sum b 0 2 1 1 1 a|b")
        return journal

    def test_taken_back(self):
        journal = self.fresh()
        record, lines = journal.record(), journal.lines()
        with journal as trial:
            self.assertIs(trial, journal)
            self.assertEqual(trial.answer("plus a a b"), "2")
            self.assertEqual(journal.answer("drop b"), "ok")
            self.assertEqual(journal.answer("show b"), "unknown b")
            self.assertEqual(journal.answer("show a"), "0 2 1 1 1 a|a 1 a|b")
            self.assertEqual(len(journal.lines()), len(lines) + 4)
            self.assertTrue(journal.record().startswith(record))
        self.assertEqual(journal.record(), record)
        self.assertEqual(journal.lines(), lines)
        self.assertEqual(journal.answer("show a"), "0 2 1 1 1 a|a")
        self.assertEqual(journal.answer("show b"), "0 2 1 1 1 a|b")

    def test_kept_before_and_behind(self):
        journal, other = self.fresh(), self.fresh()
        with journal as trial:
            trial.answer("plus a a b")
            self.assertIs(trial.keep(), None)
            trial.answer("drop b")
        other.answer("plus a a b")
        other.answer("drop b")
        self.assertEqual(self.state(journal), self.state(other))
        # A trial behind it can be taken back, to what was kept.
        record = journal.record()
        with journal:
            journal.answer("drop a")
        self.assertEqual(journal.record(), record)
        self.assertEqual(journal.answer("show a"), "0 2 1 1 1 a|a 1 a|b")

    def test_kept_twice_and_first_of_all(self):
        journal, other = self.fresh(), self.fresh()
        with journal as trial:
            trial.keep()
            trial.answer("drop a")
            trial.keep()
            trial.answer("drop b")
        other.answer("drop a")
        other.answer("drop b")
        self.assertEqual(self.state(journal), self.state(other))

    def test_left_by_an_exception(self):
        for keep in (False, True):
            journal, other = self.fresh(), self.fresh()
            for error in (ValueError("x"), KeyboardInterrupt(), OpenTrial("y")):
                with self.assertRaises(type(error)) as caught:
                    with journal as trial:
                        trial.answer("drop a")
                        if keep:
                            trial.keep()
                        trial.answer("drop b")
                        raise error
                self.assertIs(caught.exception, error)
                self.assertEqual(journal.record(), other.record())
            self.assertRaises(OpenTrial, journal.keep)
            self.assertEqual(self.state(journal), self.state(other))

    def test_left_by_return(self):
        journal = self.fresh()
        record = journal.record()

        def left(keep):
            with journal as trial:
                trial.answer("drop a")
                if keep:
                    trial.keep()
                return "left"

        self.assertEqual(left(False), "left")
        self.assertEqual(journal.record(), record)
        self.assertEqual(left(True), "left")
        self.assertEqual(journal.record(), record + "> drop a\n< ok\n")

    def test_opened_twice(self):
        journal = self.fresh()
        before = journal.record()
        with journal as trial:
            trial.answer("drop a")
            with self.assertRaises(OpenTrial):
                with journal:
                    self.fail("a second trial is open")
            self.assertRaises(OpenTrial, attempt, journal, ["drop b"])
            self.assertRaises(OpenTrial, attempt, journal, ["drop b"], keep=True)
            # The open one goes on.
            self.assertEqual(trial.answer("show a"), "unknown a")
            self.assertEqual(trial.answer("show b"), "0 2 1 1 1 a|b")
            trial.keep()
        self.assertEqual(
            journal.record(),
            before + "> drop a\n< ok\n> show a\n< unknown a\n> show b\n< 0 2 1 1 1 a|b\n"
        )
        # Not kept, it is taken back at its own end.
        record = journal.record()
        with journal:
            journal.answer("drop b")
            self.assertRaises(OpenTrial, attempt, journal, [])
        self.assertEqual(journal.record(), record)

    def test_two_journals(self):
        one, other = self.fresh(), self.fresh()
        with one, other:
            one.answer("drop a")
            other.answer("drop b")
            other.keep()
        self.assertEqual(one.answer("show a"), "0 2 1 1 1 a|a")
        self.assertEqual(other.answer("show b"), "unknown b")

    def test_keep_without_a_trial(self):
        journal = Journal()
        self.assertRaises(OpenTrial, journal.keep)
        with journal:
            pass
        self.assertRaises(OpenTrial, journal.keep)
        self.assertEqual(journal.record(), "")

    def test_many_trials(self):
        source = random.Random(304)
        journal, kept = Journal(), []
        for _ in range(40):
            lines = some_lines(source, 4)
            keep = source.random() < 0.5
            before = journal.record()
            answers, record = attempt(journal, lines, keep=keep)
            self.assertEqual(record, before + pairs_text(lines, answers))
            if keep:
                kept += lines
                self.assertEqual(journal.record(), record)
            else:
                self.assertEqual(journal.record(), before)
            self.assertEqual(journal.lines(), kept)
        self.assertEqual(resume(journal.record()).record(), journal.record())


class AttemptTest(unittest.TestCase):

    def test_kept_and_taken_back(self):
        lines = ["sum a 0 2 0 0 1 |", "show a", "bad one", "show a\n"]
        answers = ["1", "0 2 0 0 1 |", "bad", "bad"]
        record = pairs_text(lines[:3], answers)
        journal = Journal()
        with Unchanged(self, lines):
            self.assertEqual(attempt(journal, lines), (answers, record))
        self.assertEqual(journal.record(), "")
        self.assertEqual(journal.answer("show a"), "unknown a")
        self.assertEqual(attempt(Journal(), lines, keep=False), (answers, record))
        journal = Journal()
        self.assertEqual(attempt(journal, lines, keep=True), (answers, record))
        self.assertEqual(journal.record(), record)
        self.assertEqual(journal.lines(), lines[:3])
        self.assertEqual(attempt(journal, [], keep=True), ([], record))
        self.assertEqual(attempt(journal, ["drop a"])[0], ["ok"])
        self.assertEqual(journal.answer("show a"), "0 2 0 0 1 |")

    def test_keep_is_a_keyword(self):
        with self.assertRaises(TypeError):
            attempt(Journal(), [], True)

    def test_resumed_in_a_trial(self):
        journal = filled()
        with journal:
            journal.answer("sum a 0 2 0 0")
            inner = resume(journal.record())
        self.assertEqual(inner.answer("show a"), "0 2 0 0")
        self.assertEqual(journal.answer("show a"), "unknown a")
