"""The errors that the program raises."""


class WorthError(ValueError):
    """The base class of all errors of the program."""


class NotWorld(WorthError):
    """A pair is no world."""


class NotNumber(WorthError):
    """A pair is no number of the world."""


class NotPoly(WorthError):
    """A tuple is no polynomial."""


class NotDiagram(WorthError):
    """A tuple is no diagram, or no arrangement."""


class NotFamily(WorthError):
    """A string names no family, or none that is allowed."""


class NotWord(WorthError):
    """A tuple is no word."""


class NotSum(WorthError):
    """Something is no sum."""


class NotMatrix(WorthError):
    """A list is no matrix."""


class BadNumber(WorthError):
    """A number is out of range, or things do not fit together."""


class NoAnswer(WorthError):
    """There is nothing that could be returned."""


class TooLarge(WorthError):
    """A result or a list would be too large."""


class OpenTrial(WorthError):
    """A trial is open, or none is."""


class Malformed(WorthError):
    """A text or a chain is wrong from the place `at` on."""

    def __init__(self, at):
        self.at = at


class BadJournal(WorthError):
    """A record is wrong in the row with the index `row`."""

    def __init__(self, row):
        self.row = row
