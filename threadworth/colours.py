"""Tables of colours."""

from threadworth.diagrams import MOST_LISTED, check_diagram, from_labels, labels
from threadworth.errors import BadNumber, NoAnswer, NotMatrix, TooLarge
from threadworth.linear import dot, rank
from threadworth.numbers import ZERO, check_number, minus, plus
from threadworth.sums import Sum, check_sum_size
from threadworth.tables import check_count, joined_pieces, worths

MOST_COLOURS = 4
MOST_ENTRIES = 1024
MOST_SEEN = 60


def _check_colours(d):
    if not 1 <= d <= MOST_COLOURS:
        raise BadNumber("the number of colours is not from 1 to 4")


def _check_entries(d, points):
    many = 1
    for _ in range(points):
        many = many * d
    if many > MOST_ENTRIES:
        raise TooLarge("the table has more than 1024 entries")


def _colourings(d, points):
    """Return all tuples of so many colours, in ascending order."""
    rows = [()]
    for _ in range(points):
        rows = [row + (colour,) for row in rows for colour in range(d)]
    return rows


def _place(d, colours):
    """Return the index of a tuple of colours in ascending order."""
    found = 0
    for colour in colours:
        found = found * d + colour
    return found


def _places(d, diagram, exact):
    """Return the rows and columns at which a table has the entry 1."""
    n, _, blocks = diagram
    marks = labels(diagram)
    found = []
    for colouring in _colourings(d, len(blocks)):
        if not exact or len(set(colouring)) == len(blocks):
            colours = [colouring[mark] for mark in marks]
            found.append((_place(d, colours[:n]), _place(d, colours[n:])))
    return found


def _empty(d, n, m, entry):
    """Return a table with the same entry everywhere."""
    width = len(_colourings(d, m))
    return [[entry] * width for _ in _colourings(d, n)]


def _table_of(d, diagram, exact):
    _check_colours(d)
    check_diagram(diagram)
    n, m, _ = diagram
    _check_entries(d, n + m)
    table = _empty(d, n, m, 0)
    for row, column in _places(d, diagram, exact):
        table[row][column] = 1
    return table


def colour_table(d, diagram):
    """Return the table of a diagram."""
    return _table_of(d, diagram, False)


def exact_table(d, diagram):
    """Return the exact table of a diagram: other blocks have other colours."""
    return _table_of(d, diagram, True)


def _check_coloured(one):
    p, d = one.world
    if p != 0:
        raise BadNumber("the world is not one of fractions")
    _check_colours(d)
    _check_entries(d, one.n + one.m)


def sum_table(one):
    """Return the table of a sum."""
    _check_coloured(one)
    _, d = one.world
    table = _empty(d, one.n, one.m, ZERO)
    for diagram, x in one.terms():
        for row, column in _places(d, diagram, False):
            table[row][column] = plus(one.world, table[row][column], x)
    return table


def _entries_of(table):
    return [entry for row in table for entry in row]


def is_without_colours(one):
    return all([entry == ZERO for entry in _entries_of(sum_table(one))])


def matched(one, other):
    """Return the sum of the products of the entries of two tables."""
    _check_coloured(one)
    _check_coloured(other)
    if (one.world, one.n, one.m) != (other.world, other.n, other.m):
        raise BadNumber("the sums have other worlds or points")
    return dot(one.world, _entries_of(sum_table(one)), _entries_of(sum_table(other)))


def _check_table(d, n, m, entries):
    _check_colours(d)
    check_sum_size(n, m)
    _check_entries(d, n + m)
    shape = [len(row) for row in _empty(d, n, m, 0)]
    if [len(row) for row in entries] != shape:
        raise NotMatrix("the table has not one entry for all colours")
    for entry in _entries_of(entries):
        check_number((0, d), entry)


def _told_entries(d, n, m, entries):
    """Return the entry of each part, or None if the table is not blind.

    Colours can be renamed to others exactly if the same points are equal; so
    there is a part for all colours with one and the same entry.
    """
    told = {}
    for above, row in zip(_colourings(d, n), entries):
        for below, entry in zip(_colourings(d, m), row):
            part = from_labels(n, m, list(above + below))
            if told.setdefault(part, entry) != entry:
                return None
    return told


def is_blind(d, n, m, entries):
    """Tell if a table stays as it is for all permutations of the colours."""
    _check_table(d, n, m, entries)
    return _told_entries(d, n, m, entries) is not None


def sum_of(d, n, m, entries):
    """Return the sum of parts with at most d blocks that has a table."""
    _check_table(d, n, m, entries)
    check_count("parts", n, m, MOST_LISTED)
    told = _told_entries(d, n, m, entries)
    if told is None:
        raise NoAnswer("the table is not blind")
    terms = []
    for size in range(d, -1, -1):
        for part in told:
            if len(part[2]) == size:
                terms.append((part, _left_over((0, d), terms, part, told[part])))
    return Sum((0, d), n, m, terms)


def _left_over(world, terms, part, entry):
    """Return the entry of a part less the numbers of the finer ones among the terms."""
    for finer, x in terms:
        # Joined to one with blocks within its own, the part has as many pieces.
        if joined_pieces(part, finer) == len(part[2]):
            entry = minus(world, entry, x)
    return entry


def few_blocks(one):
    """Return the sum of parts with at most d blocks that is alike to a sum."""
    table = sum_table(one)
    return sum_of(one.world[1], one.n, one.m, table)


def seen(d, family, n, m):
    """Return the greatest number of diagrams whose tables are independent."""
    _check_colours(d)
    check_count(family, n, m, MOST_SEEN)
    return rank((0, d), worths((0, d), family, n, m))
