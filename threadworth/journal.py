"""The journal: a desk with a record of its lines and answers, and trials."""

from threadworth.desk import BAD, Desk
from threadworth.errors import BadJournal, OpenTrial

LINE_MARK = "> "
ANSWER_MARK = "< "
END = "\n"


def _can_be_recorded(line):
    return all([" " <= sign <= "~" for sign in line])


class Journal:
    """A desk and the pairs of a line and its answer, which are taken back together."""

    def __init__(self):
        self._now = (Desk(), [])
        # What stands at the end of an open trial: if it fails, and if it does not.
        self._failed = None
        self._done = None

    def answer(self, line):
        """Return the answer to a line, and record both."""
        if not _can_be_recorded(line):
            return BAD
        desk, pairs = self._now
        told = desk.answer(line)
        pairs.append((line, told))
        return told

    def record(self):
        """Return the text of the record."""
        _, pairs = self._now
        return "".join([LINE_MARK + line + END + ANSWER_MARK + told + END for line, told in pairs])

    def lines(self):
        """Return the list of the recorded lines."""
        _, pairs = self._now
        return [line for line, _ in pairs]

    def keep(self):
        """Keep what the open trial has done and does."""
        if self._failed is None:
            raise OpenTrial("there is no trial to be kept")
        self._done = self._now

    def __enter__(self):
        if self._failed is not None:
            raise OpenTrial("another trial goes on")
        desk, pairs = self._now
        self._failed = self._now
        self._done = self._now
        # The trial works on a copy, so that it can be taken back.
        self._now = (desk.copied(), list(pairs))
        return self

    def __exit__(self, kind, value, trace):
        if kind is None:
            self._now = self._done
        else:
            self._now = self._failed
        self._failed = None
        self._done = None


def attempt(journal, lines, *, keep=False):
    """Answer lines in a trial, and return the answers and the record at its end."""
    with journal as trial:
        answers = [trial.answer(line) for line in lines]
        record = trial.record()
        if keep:
            trial.keep()
    return (answers, record)


def resume(text):
    """Return a journal that goes on from a record."""
    rows = text.split(END)[:-1]
    journal = Journal()
    due = ""
    for at, row in enumerate(rows):
        if at % 2 == 1:
            if row != due:
                raise BadJournal(at)
        elif not row.startswith(LINE_MARK) or not _can_be_recorded(row):
            raise BadJournal(at)
        elif at + 1 < len(rows):
            due = ANSWER_MARK + journal.answer(row[len(LINE_MARK):])
    return journal
