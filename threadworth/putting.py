"""Diagrams above and beside one another, moved, and closed."""

from threadworth.diagrams import MOST_ON_A_SIDE, MOST_POINTS, check_diagram, from_labels, labels
from threadworth.errors import BadNumber, TooLarge
from threadworth.pieces import hidden_count, piece_marks


def put(one, other):
    """Return the loops and the diagram for the first one above the second one."""
    check_diagram(one)
    check_diagram(other)
    n, m, upper = one
    k, q, lower = other
    if m != k:
        raise BadNumber("the points do not fit")
    if n + q > MOST_POINTS:
        raise TooLarge("the result has more than 12 points")
    # The points of the second one come n later, so that its points above are
    # the points below of the first one.
    groups = list(upper) + [[n + point for point in block] for block in lower]
    marks = piece_marks(n + m + q, groups)
    shown = marks[:n] + marks[n + m:]
    return (hidden_count(marks, shown), from_labels(n, q, shown))


def beside(one, other):
    first = labels(one)
    second = labels(other)
    n, m, blocks = one
    k, q, _ = other
    if n + k > MOST_ON_A_SIDE or m + q > MOST_ON_A_SIDE or n + k + m + q > MOST_POINTS:
        raise TooLarge("the result has too many points")
    apart = [len(blocks) + mark for mark in second]
    return from_labels(n + k, m + q, first[:n] + apart[:k] + first[n:] + apart[k:])


def over(diagram):
    """Return the diagram with the points above and below exchanged."""
    marks = labels(diagram)
    n, m, _ = diagram
    return from_labels(m, n, marks[n:] + marks[:n])


def moved(diagram, above, below):
    """Return the diagram with its points at the places that two lists tell."""
    marks = labels(diagram)
    n, m, _ = diagram
    if not _is_arrangement(n, above) or not _is_arrangement(m, below):
        raise BadNumber("a list does not have each place once")
    return from_labels(n, m, _rearranged(marks[:n], above) + _rearranged(marks[n:], below))


def _is_arrangement(size, places):
    return sorted(places) == list(range(size))


def _rearranged(marks, places):
    found = [0] * len(marks)
    for place, mark in zip(places, marks):
        found[place] = mark
    return found


def lowered(diagram):
    """Return the diagram with its last point above as the last point below."""
    marks = labels(diagram)
    n, m, _ = diagram
    if n == 0:
        raise BadNumber("there is no point above")
    if m == MOST_ON_A_SIDE:
        raise TooLarge("there are 8 points below")
    return from_labels(n - 1, m + 1, marks[:n - 1] + marks[n:] + marks[n - 1:n])


def raised(diagram):
    """Return the diagram with its last point below as the last point above."""
    marks = labels(diagram)
    n, m, _ = diagram
    if m == 0:
        raise BadNumber("there is no point below")
    if n == MOST_ON_A_SIDE:
        raise TooLarge("there are 8 points above")
    return from_labels(n + 1, m - 1, marks[:n] + marks[-1:] + marks[n:-1])


def closing(diagram):
    """Return the number of pieces with each place above joined to that below."""
    check_diagram(diagram)
    if diagram[0] != diagram[1]:
        raise BadNumber("there are not as many points above as below")
    loops, _ = closed_end(diagram, diagram[0])
    return loops


def closed_end(diagram, count):
    """Return the loops and the diagram when its last points are closed."""
    check_diagram(diagram)
    n, m, blocks = diagram
    if not 0 <= count <= min(n, m):
        raise BadNumber("there are not so many points to close")
    above = n - count
    below = n + m - count
    groups = list(blocks) + [(above + k, below + k) for k in range(count)]
    marks = piece_marks(n + m, groups)
    shown = marks[:above] + marks[n:below]
    return (hidden_count(marks, shown), from_labels(above, m - count, shown))
