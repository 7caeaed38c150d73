"""The small diagrams: units, hooks, swaps, bridges and cuts."""

from threadworth.diagrams import from_labels
from threadworth.errors import BadNumber

MOST_STRANDS = 6


def _check(n, i, strands):
    """Check that there are the strands from i on, so many, out of n."""
    if not 0 <= n <= MOST_STRANDS:
        raise BadNumber("the number of strands is not from 0 to 6")
    if not 0 <= i <= n - strands:
        raise BadNumber("there is no such place")


def _changed(n, i, above, below):
    """Return the unit, but for the marks of some places from i on."""
    return from_labels(n, n, _with_marks(n, i, above) + _with_marks(n, i, below))


def _with_marks(n, i, marks):
    return list(range(i)) + marks + list(range(i + len(marks), n))


def unit(n):
    _check(n, 0, 0)
    return _changed(n, 0, [], [])


def hook(n, i):
    _check(n, i, 2)
    return _changed(n, i, [i, i], [n, n])


def swap(n, i):
    _check(n, i, 2)
    return _changed(n, i, [i, i + 1], [i + 1, i])


def bridge(n, i):
    _check(n, i, 2)
    return _changed(n, i, [i, i], [i, i])


def cut(n, i):
    _check(n, i, 1)
    return _changed(n, i, [i], [n])
