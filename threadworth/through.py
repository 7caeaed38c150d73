"""Blocks that go through: parts of diagrams, and what leads from one to another."""

from math import comb, factorial

from threadworth.diagrams import check_diagram, check_family, counted, is_in
from threadworth.errors import BadNumber, NotFamily
from threadworth.putting import put


def _halves(diagram):
    """Return for each block the tuple of its places above and that of those below."""
    check_diagram(diagram)
    n, _, blocks = diagram
    return [
        (tuple([k for k in block if k < n]), tuple([k - n for k in block if k >= n]))
        for block in blocks
    ]


def _through_halves(diagram):
    """Return the same for the blocks that go through, by their first points above."""
    return [(above, below) for above, below in _halves(diagram) if above and below]


def _only_above(diagram):
    return [above for above, below in _halves(diagram) if not below]


def _only_below(diagram):
    return [below for above, below in _halves(diagram) if not above]


def _shifted(places, by):
    return tuple([place + by for place in places])


def _with_blocks(n, m, blocks):
    """Return the diagram with some blocks, in any order."""
    return (n, m, tuple(sorted(blocks)))


def through(diagram):
    """Return the number of the blocks that go through."""
    return len(_through_halves(diagram))


def upper(diagram):
    """Return the upper part: one point below for each block that goes through."""
    halves = _through_halves(diagram)
    n = diagram[0]
    joined = [above + (n + k,) for k, (above, _) in enumerate(halves)]
    return _with_blocks(n, len(halves), joined + _only_above(diagram))


def lower(diagram):
    """Return the lower part: one point above for each block that goes through."""
    belows = sorted([below for _, below in _through_halves(diagram)])
    t = len(belows)
    joined = [(k,) + _shifted(below, t) for k, below in enumerate(belows)]
    alone = [_shifted(below, t) for below in _only_below(diagram)]
    return _with_blocks(t, diagram[1], joined + alone)


def middle(diagram):
    """Return the thread that joins the upper part to the lower part."""
    belows = [below for _, below in _through_halves(diagram)]
    t = len(belows)
    placed = sorted(belows)
    return (t, t, tuple([(k, t + placed.index(below)) for k, below in enumerate(belows)]))


def by_through(family, n, m):
    """Return how many diagrams of a family have 0, 1, 2, .. blocks that go through."""
    # Nothing is listed here; this checks the arguments.
    counted(family, n, m)
    above = _side_counts(family, n)
    below = _side_counts(family, m)
    counts = [0 for _ in range(min(n, m) + 1)]
    for (evens, odds), many in above.items():
        ways = factorial(evens) * factorial(odds) * below.get((evens, odds), 0)
        if ways > 0:
            counts[evens + odds] = counts[evens + odds] + many * ways
    return counts


def _side_counts(family, size):
    """Return in how many ways so many points of one side are in blocks.

    The keys tell how many of the blocks go through: those that must meet a
    block with an even number of points there, and those that must meet an odd
    one. As in the count of all diagrams, the block of the last point is told.
    """
    counts = [{(0, 0): 1}]
    for total in range(1, size + 1):
        found = {}
        for j in range(1, total + 1):
            ways = comb(total - 1, j - 1)
            for (evens, odds), many in counts[total - j].items():
                for key in _keys_with(family, j, evens, odds):
                    found[key] = found.get(key, 0) + ways * many
        counts.append(found)
    return counts[size]


def _keys_with(family, j, evens, odds):
    """Return the keys when one block with j points on this side is added."""
    found = [(evens, odds)] if _may_stay(family, j) else []
    if family == "even" and j % 2 == 1:
        found.append((evens, odds + 1))
    elif j == 1 or family in ("even", "parts"):
        # Only the blocks of the family even ask for others of their own kind.
        found.append((evens + 1, odds))
    return found


def _may_stay(family, j):
    """Tell if a block of a family may have j points, all of them on one side."""
    return is_in(family, (0, j, (tuple(range(j)),)))


def led(family, one, other):
    """Return what leads from the second diagram to the first one, or None."""
    check_family(family)
    if family == "even":
        raise NotFamily("this is not told for the family even")
    check_diagram(one)
    check_diagram(other)
    n = one[0]
    if one[:2] != (n, n) or other[:2] != (n, n):
        raise BadNumber("the diagrams have not one number of points above and below")
    if not is_in(family, one) or not is_in(family, other):
        raise BadNumber("a diagram is not in the family")
    if through(one) > through(other):
        return None
    return _leading(family, one, other)


def _leading(family, one, other):
    """Return the tuple of what leads to a diagram through which no more blocks go.

    Each block that goes through it makes its way through a block of the other
    one, which it meets in one point above and in one point below alone.
    """
    n = one[0]
    halves = _through_halves(one)
    taken = _through_halves(other)[:len(halves)]
    entries = [above[0] for above, _ in taken]
    exits = [below[0] for _, below in taken]
    u = [above + (n + k,) for (above, _), k in zip(halves, entries)] + _only_above(one)
    u = u + [_shifted(block, n) for block in _spare_blocks(family, n, entries)]
    v = [(k,) + _shifted(below, n) for (_, below), k in zip(halves, exits)]
    v = v + [_shifted(below, n) for below in _only_below(one)] + _spare_blocks(family, n, exits)
    first = _with_blocks(n, n, u)
    last = _with_blocks(n, n, v)
    above_loops, made = put(first, other)
    below_loops, _ = put(made, last)
    return (first, above_loops + below_loops, last)


def _spare_blocks(family, n, used):
    """Return blocks of the family that contain all places but the used ones."""
    spare = [k for k in range(n) if k not in used]
    if family == "pairs":
        # As the blocks that do not go through are pairs, an even number is left.
        return list(zip(spare[::2], spare[1::2]))
    return [(k,) for k in spare]
