"""Diagrams as texts."""

from threadworth.diagrams import MOST_ON_A_SIDE, MOST_POINTS, from_labels, labels
from threadworth.errors import Malformed

LETTERS = "abcdefghijkl"


def text_of(diagram):
    letters = [LETTERS[mark] for mark in labels(diagram)]
    n = diagram[0]
    return "".join(letters[:n]) + "|" + "".join(letters[n:])


def read_diagram(text):
    """Return the diagram of which this is the text."""
    n = None
    marks = []
    for at, letter in enumerate(text):
        if letter == "|" and n is None:
            n = len(marks)
        elif _has_room(n, marks) and letter in _next_letters(marks):
            marks.append(LETTERS.index(letter))
        else:
            raise Malformed(at)
    if n is None:
        raise Malformed(len(text))
    return from_labels(n, len(marks) - n, marks)


def _has_room(n, marks):
    """Tell if one more point may stand on the side that is being read."""
    if n is None:
        return len(marks) < MOST_ON_A_SIDE
    return len(marks) < MOST_POINTS and len(marks) - n < MOST_ON_A_SIDE


def _next_letters(marks):
    return LETTERS[:max(marks, default=-1) + 2]
