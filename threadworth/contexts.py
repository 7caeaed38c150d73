"""Contexts: what stands around a diagram, and its worth there."""

from threadworth.diagrams import MOST_POINTS, check_diagram, from_labels
from threadworth.errors import BadNumber, TooLarge
from threadworth.pieces import hidden_count, piece_count, piece_marks
from threadworth.putting import over


def _room(u, v, left, right):
    """Return the numbers of points above and below that a context leaves open."""
    check_diagram(u)
    check_diagram(v)
    if left < 0 or right < 0:
        raise BadNumber("there are no fewer than 0 strands")
    n = u[1] - left - right
    m = v[0] - left - right
    if n < 0 or m < 0 or u[0] != v[1]:
        raise BadNumber("the points of the context do not fit")
    return (n, m)


def fits(u, v, left, right):
    n, m = _room(u, v, left, right)
    if n + m > MOST_POINTS:
        raise TooLarge("the context is for more than 12 points")
    return (n, m)


def outside(u, v, left, right):
    """Return the loops and the diagram that make up what stands around."""
    n, m = fits(u, v, left, right)
    size = u[0] + u[1]
    # The points of u come first, then those of v.
    groups = list(u[2]) + [[size + point for point in block] for block in v[2]]
    groups = groups + [(k, size + v[0] + k) for k in range(u[0])]
    groups = groups + [(u[0] + k, size + k) for k in range(left)]
    groups = groups + [(size - 1 - k, size + v[0] - 1 - k) for k in range(right)]
    marks = piece_marks(size + v[0] + v[1], groups)
    # What is above for the diagram inside is below for what is outside.
    above = marks[size + left:size + left + m]
    below = marks[u[0] + left:u[0] + left + n]
    return (hidden_count(marks, above + below), from_labels(m, n, above + below))


def worth_in(diagram, u, v, left, right):
    """Return the worth of a diagram in a context."""
    check_diagram(diagram)
    n, m, blocks = diagram
    if _room(u, v, left, right) != (n, m):
        raise BadNumber("the diagram does not fit into the context")
    loops, around = outside(u, v, left, right)
    # Turned over, what is outside has the same points as the diagram, so that
    # joining both at once counts the loops and the closing.
    return loops + piece_count(n + m, list(blocks) + list(over(around)[2]))
