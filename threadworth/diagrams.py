"""Diagrams, their labels and order, and the six families."""

from math import comb, factorial

from threadworth.errors import BadNumber, NotDiagram, NotFamily, TooLarge

FAMILIES = ("threads", "loose", "pairs", "lonepairs", "even", "parts")
MOST_ON_A_SIDE = 8
MOST_POINTS = 12
MOST_LISTED = 250


def _is_size(n, m):
    return 0 <= n <= MOST_ON_A_SIDE and 0 <= m <= MOST_ON_A_SIDE and n + m <= MOST_POINTS


def _check_size(n, m):
    if not _is_size(n, m):
        raise BadNumber("there are no diagrams with so many points")


def is_diagram(diagram):
    if len(diagram) != 3:
        return False
    n, m, blocks = diagram
    if not _is_size(n, m) or () in blocks:
        return False
    points = [point for block in blocks for point in block]
    if sorted(points) != list(range(n + m)):
        return False
    if not all([list(block) == sorted(block) for block in blocks]):
        return False
    firsts = [block[0] for block in blocks]
    return firsts == sorted(firsts)


def check_diagram(diagram):
    if not is_diagram(diagram):
        raise NotDiagram("this tuple is no diagram")


def check_family(family):
    if family not in FAMILIES:
        raise NotFamily("this string names no family")


def labels(diagram):
    """Return the number of the block of each point."""
    check_diagram(diagram)
    n, m, blocks = diagram
    # The operators of sums come here, and may change the items of a list only
    # where it surely is a new one; a product could be anything.
    marks = [0 for _ in range(n + m)]
    for k, block in enumerate(blocks):
        for point in block:
            marks[point] = k
    return marks


def from_labels(n, m, marks):
    """Return the diagram that has points with equal marks in one block."""
    _check_size(n, m)
    if len(marks) != n + m:
        raise BadNumber("there is not one mark for each point")
    blocks = {}
    for point, mark in enumerate(marks):
        blocks[mark] = blocks.get(mark, ()) + (point,)
    # The dict has its keys in the order of the first points.
    return (n, m, tuple(blocks.values()))


def is_in(family, diagram):
    check_family(family)
    check_diagram(diagram)
    n, _, blocks = diagram
    return all([_is_block_of(family, n, block) for block in blocks])


def _is_block_of(family, n, block):
    if family == "threads":
        return _is_strand(n, block)
    if family == "loose":
        return len(block) == 1 or _is_strand(n, block)
    return _is_block_size(family, len(block))


def _is_strand(n, block):
    return len(block) == 2 and block[0] < n <= block[1]


def _is_block_size(family, size):
    """Tell if a block may have this size in a family that knows sizes alone."""
    if family == "pairs":
        return size == 2
    if family == "lonepairs":
        return size <= 2
    if family == "even":
        return size % 2 == 0
    return True


def is_before(one, other):
    return _order_key(one) < _order_key(other)


def _order_key(diagram):
    marks = labels(diagram)
    return (diagram[0], diagram[1], marks)


def counted(family, n, m):
    """Return the number of the diagrams of a family, without listing them."""
    check_family(family)
    _check_size(n, m)
    if family == "threads":
        return factorial(n) if n == m else 0
    if family == "loose":
        most = min(n, m)
        return sum([comb(n, t) * comb(m, t) * factorial(t) for t in range(most + 1)])
    return _counted_by_last(family, n + m)


def _counted_by_last(family, size):
    counts = [1]
    for total in range(1, size + 1):
        counts.append(sum([
            comb(total - 1, j - 1) * counts[total - j]
            for j in range(1, total + 1) if _is_block_size(family, j)
        ]))
    return counts[size]


def listed(family, n, m):
    """Return all diagrams of a family, in order."""
    many = counted(family, n, m)
    if many > MOST_LISTED:
        raise TooLarge("there are more than 250 diagrams")
    # Without this, a search that finds nothing could take long.
    if many == 0:
        return []
    found = [from_labels(n, m, row) for row in _label_rows(family, n, m)]
    return [diagram for diagram in found if is_in(family, diagram)]


def _label_rows(family, n, m):
    """Return, in order, rows of labels, with those of all diagrams of the family.

    A row that already breaks the family is left out; one that is not yet
    finished in some block is not.
    """
    rows = [[]]
    for _ in range(n + m):
        rows = [
            row + [mark] for row in rows
            for mark in range(max(row, default=-1) + 2) if _may_follow(family, n, row, mark)
        ]
    return rows


def _may_follow(family, n, row, mark):
    mates = row.count(mark)
    if mates == 0 or family in ("even", "parts"):
        return True
    if mates > 1:
        return False
    return family in ("pairs", "lonepairs") or row.index(mark) < n <= len(row)


def index_of(family, diagram):
    """Return the index of a diagram in the list of its family."""
    if not is_in(family, diagram):
        raise BadNumber("the diagram is not in the family")
    return listed(family, diagram[0], diagram[1]).index(diagram)
