"""The checker: it checks what is claimed, and needs no other part of the program."""

from threadworth.errors import BadNumber, NotDiagram, NotFamily, NotNumber, NotWorld, TooLarge

PRIMES = (2, 3, 5, 7, 11, 13, 17, 19, 23, 29, 31)
FAMILIES = ("threads", "loose", "pairs", "lonepairs", "even", "parts")
ZERO = (0, 1)
ONE = (1, 1)
MOST_POINTS = 8
MOST_DIAGRAMS = 250
MOST_COLOURS = 4
MOST_ENTRIES = 4096
MOST_STRANDS = 6
MOST_LETTERS = 60
MOST_ROWS = 60
MOST_POLY_ROWS = 30
MOST_DEGREE = 100
RULES = (
    ("s0 s0", "", 0), ("s0 s1 s0", "s1 s0 s1", 0), ("e0 e0", "e0", 1), ("e0 s0", "e0", 0),
    ("s0 e0", "e0", 0), ("e0 e1 e0", "e0", 0), ("e1 e0 e1", "e1", 0), ("s0 e1 e0", "s1 e0", 0),
    ("e0 e1 s0", "e0 s1", 0), ("p0 p0", "p0", 1), ("s0 p0", "p1 s0", 0),
    ("s0 p0 p1", "p0 p1", 0), ("b0 b0", "b0", 0), ("b0 s0", "b0", 0), ("s0 b0", "b0", 0),
    ("b0 p0 b0", "b0", 0), ("p0 b0 p0", "p0", 0), ("b0 b1", "b1 b0", 0),
    ("s0 s1 b0", "b1 s0 s1", 0), ("e0 p0", "e0 p1", 0), ("p0 e0", "p1 e0", 0),
    ("e0 p0 e0", "e0", 1), ("p0 e0 p0", "p0 p1", 0), ("b0 e0", "e0", 0), ("e0 b0", "e0", 0),
    ("e0 b1 e0", "e0", 0),
)


def _check_world(world):
    p, d = world
    if not (-20 <= d <= 20 if p == 0 else p in PRIMES and 0 <= d < p):
        raise NotWorld("this pair is no world")


def _common(a, b):
    """Return the greatest common divisor of two integers."""
    while b != 0:
        a, b = b, a % b
    return abs(a)


def _is_number(world, x):
    a, b = x
    if world[0] == 0:
        return b >= 1 and _common(a, b) == 1
    return b == 1 and 0 <= a < world[0]


def _number(world, a, b):
    """Return the number a / b, where b is above 0, and 1 among rests."""
    if world[0] > 0:
        return (a % world[0], 1)
    shared = _common(a, b)
    return (a // shared, b // shared)


def _total(world, row, other):
    """Return the sum of the products of the entries of two lists of numbers."""
    found = ZERO
    for (a, b), (c, d) in zip(row, other):
        found = _number(world, found[0] * b * d + a * c * found[1], found[1] * b * d)
    return found


def _is_diagram(n, m, diagram):
    """Tell if a tuple is a diagram from n to m."""
    if len(diagram) != 3 or diagram[:2] != (n, m):
        return False
    blocks = diagram[2]
    points = [point for block in blocks for point in block]
    if () in blocks or sorted(points) != list(range(n + m)):
        return False
    firsts = [block[0] for block in blocks]
    return firsts == sorted(firsts) and all([list(block) == sorted(block) for block in blocks])


def _is_in(family, diagram):
    return all([_is_block_of(family, diagram[0], block) for block in diagram[2]])


def _is_block_of(family, n, block):
    size = len(block)
    if family in ("threads", "loose"):
        return (size == 2 and block[0] < n <= block[1]) or (size == 1 and family == "loose")
    if family == "pairs":
        return size == 2
    if family == "lonepairs":
        return size <= 2
    return size % 2 == 0 or family == "parts"


def _diagram_of(n, m, marks):
    """Return the diagram that has points with equal marks in one block."""
    blocks = {}
    for point, mark in enumerate(marks):
        blocks[mark] = blocks.get(mark, ()) + (point,)
    return (n, m, tuple(blocks.values()))


def _diagrams(family, n, m):
    """Return the diagrams of a family, in order: the order of their labels."""
    rows = [[]]
    for _ in range(n + m):
        rows = [row + [mark] for row in rows for mark in range(max(row, default=-1) + 2)]
    found = [_diagram_of(n, m, row) for row in rows]
    found = [diagram for diagram in found if _is_in(family, diagram)]
    if len(found) > MOST_DIAGRAMS:
        raise TooLarge("the family has more than 250 diagrams")
    return found


def _piece_marks(size, groups):
    """Return a mark for each point, equal for points that the groups join."""
    marks = list(range(size))
    for group in groups:
        for point in group[1:]:
            old = marks[point]
            new = marks[group[0]]
            if old != new:
                marks = [new if mark == old else mark for mark in marks]
    return marks


def _check_size(n, m):
    if n < 0 or m < 0 or n + m > MOST_POINTS:
        raise BadNumber("there are no sums with so many points")


def _check_terms(world, n, m, terms):
    for diagram, x in terms:
        if not _is_diagram(n, m, diagram):
            raise NotDiagram("this tuple is no diagram of the sum")
        if not _is_number(world, x):
            raise NotNumber("this pair is no number of the world")


def _check_sum(world, family, n, m, terms):
    _check_world(world)
    if family not in FAMILIES:
        raise NotFamily("this string names no family")
    _check_size(n, m)
    _check_terms(world, n, m, terms)
    if not all([_is_in(family, diagram) for diagram, _ in terms]):
        raise BadNumber("a diagram is not in the family")


def _added(world, terms):
    """Return the dict of the numbers of the diagrams of a list of terms."""
    found = {}
    for diagram, x in terms:
        found[diagram] = _total(world, [found.get(diagram, ZERO), x], [ONE, ONE])
    return found


def _joined_pieces(diagram, other):
    """Return the number of pieces of a diagram closed by one with the sides exchanged."""
    n, m, blocks = diagram
    turned = [[n + point if point < m else point - m for point in block] for block in other[2]]
    return len(set(_piece_marks(n + m, list(blocks) + turned)))


def _worths(world, terms, closers):
    """Return the list of the worths of a sum with some diagrams from m to n."""
    numbers = _added(world, terms)
    powers = [_number(world, world[1] ** k, 1) for k in range(9)]
    rows = [[powers[_joined_pieces(diagram, other)] for diagram in numbers] for other in closers]
    return [_total(world, list(numbers.values()), row) for row in rows]


def worths_told(world, family, n, m, terms):
    """Return the list of the worths of a sum in a family."""
    _check_sum(world, family, n, m, terms)
    return _worths(world, terms, _diagrams(family, m, n))


def is_told_lost(world, family, n, m, terms):
    """Tell if all worths of a sum in a family are 0."""
    return all([worth == ZERO for worth in worths_told(world, family, n, m, terms)])


def shown(world, family, n, m, terms, others, answer):
    """Tell what an answer shows for two sums: "alike", "apart" or "none"."""
    _check_sum(world, family, n, m, terms + others)
    closers = _diagrams(family, m, n)
    kind, told = answer
    if kind == "alike":
        sides = [_worths(world, pairs, closers) for pairs in (terms, others)]
        return kind if sides == [told, told] else "none"
    if kind == "apart" and told in closers:
        one, other = [_worths(world, pairs, [told]) for pairs in (terms, others)]
        return kind if one != other else "none"
    return "none"


def has_no_colours(d, n, m, terms):
    """Tell if the table of colours of a sum has only entries 0."""
    if not 1 <= d <= MOST_COLOURS:
        raise BadNumber("the number of colours is not from 1 to 4")
    _check_size(n, m)
    world = (0, d)
    _check_terms(world, n, m, terms)
    if [d ** k for k in range(9)][n + m] > MOST_ENTRIES:
        raise TooLarge("the table has more than 4096 entries")
    numbers = _added(world, terms)
    entries = [
        (colours, numbers[diagram]) for diagram in numbers for colours in _colours_of(d, diagram)
    ]
    return all([x == ZERO for x in _added(world, entries).values()])


def _colours_of(d, diagram):
    """Return the tuples of colours of all points for which each block has one colour."""
    n, m, blocks = diagram
    rows = [()]
    for _ in blocks:
        rows = [row + (colour,) for row in rows for colour in range(d)]
    # The points of a block have the colour with the index of the block.
    places = [[point in block for block in blocks].index(True) for point in range(n + m)]
    return [tuple([row[place] for place in places]) for row in rows]


def _check_strands(n):
    if not 0 <= n <= MOST_STRANDS:
        raise BadNumber("the number of strands is not from 0 to 6")


def _is_letter(n, letter):
    kind, i = letter
    if kind == "p":
        return 0 <= i < n
    return kind in ("s", "e", "b") and 0 <= i < n - 1


def _is_word(n, word):
    return len(word) <= MOST_LETTERS and all([_is_letter(n, letter) for letter in word])


def _changed(letter):
    """Return the list of the strands that a letter changes."""
    kind, i = letter
    return [i] if kind == "p" else [i, i + 1]


def _letter_groups(n, level, letter):
    """Return the points that a letter joins, those above it at its level, n to a level."""
    kind, i = letter
    above = level * n + i
    below = above + n
    joined = {
        "s": [[above, below + 1], [above + 1, below]],
        "e": [[above, above + 1], [below, below + 1]],
        "b": [[above, above + 1, below, below + 1]],
        "p": [],
    }
    strands = [k for k in range(n) if k not in _changed(letter)]
    return joined[kind] + [[level * n + k, level * n + n + k] for k in strands]


def diagram_told(n, word):
    """Return the loops and the diagram of a word, or None if it is no word."""
    _check_strands(n)
    if not _is_word(n, word):
        return None
    groups = []
    for level, letter in enumerate(word):
        groups = groups + _letter_groups(n, level, letter)
    last = len(word) * n
    marks = _piece_marks(last + n, groups)
    ends = marks[:n] + marks[last:]
    return (len(set(marks) - set(ends)), _diagram_of(n, n, ends))


def _stepped(n, word, step):
    """Return the word after a step and its loops, or None if it is not allowed."""
    if step[0] != "apart":
        return _replaced(n, word, step)
    at = step[1]
    if not 0 <= at < len(word) - 1:
        return None
    one, other = word[at:at + 2]
    if any([strand in _changed(one) for strand in _changed(other)]):
        return None
    return (word[:at] + (other, one) + word[at + 2:], 0)


def _replaced(n, word, step):
    kind, number, at, i = step
    if kind not in ("rule", "back") or not 0 <= number < len(RULES):
        return None
    left, right, loops = RULES[number]
    if kind == "back":
        left, right, loops = right, left, -loops
    old = _side(left, i)
    end = at + len(old)
    made = word[:at] + _side(right, i) + word[end:]
    if not 0 <= at <= end <= len(word) or word[at:end] != old or not _is_word(n, made):
        return None
    return (made, loops)


def _side(text, i):
    return tuple([(part[0], int(part[1]) + i) for part in text.split()])


def is_chain(n, one, other, chain, taken):
    """Tell if a chain leads from one word to another and takes so many loops."""
    _check_strands(n)
    if not _is_word(n, one) or not _is_word(n, other):
        return False
    word = one
    loops = 0
    for step in chain:
        found = _stepped(n, word, step)
        if found is None:
            return False
        word, more = found
        loops = loops + more
    return word == other and loops == taken


def _are_numbers(world, row, count):
    """Tell if a list has so many entries, all of them numbers."""
    return len(row) == count and all([_is_number(world, x) for x in row])


def _is_matrix(world, matrix):
    count = len(matrix[0]) if matrix else 0
    if len(matrix) > MOST_ROWS or count > MOST_ROWS:
        return False
    return all([_are_numbers(world, row, count) for row in matrix])


def is_told_solution(world, matrix, right, vector):
    """Tell if a matrix takes a vector to a list."""
    _check_world(world)
    if not _is_matrix(world, matrix) or not _are_numbers(world, right, len(matrix)):
        return False
    if not _are_numbers(world, vector, len(matrix[0]) if matrix else 0):
        return False
    return [_total(world, row, vector) for row in matrix] == right


def is_told_clash(world, matrix, right, numbers):
    """Tell if numbers for the rows show that no vector is taken to a list."""
    _check_world(world)
    if not _is_matrix(world, matrix) or not _are_numbers(world, right, len(matrix)):
        return False
    if not _are_numbers(world, numbers, len(matrix)):
        return False
    sums = [_total(world, numbers, column) for column in zip(*matrix)]
    return all([x == ZERO for x in sums]) and _total(world, numbers, right) == ONE


def _value_at(poly, x):
    found = 0
    for part in reversed(poly):
        found = found * x + part
    return found


def _determinant(rows):
    """Return the determinant of rows of integers."""
    sign = 1
    last = 1
    while rows:
        found = [k for k, row in enumerate(rows) if row[0] != 0]
        if not found:
            return 0
        at = found[0]
        sign = -sign if at % 2 == 1 else sign
        top = rows[at]
        # What is divided here leaves no rest: it is a determinant times the last entry.
        rows = [
            [(top[0] * x - row[0] * y) // last for x, y in zip(row[1:], top[1:])]
            for row in rows[:at] + rows[at + 1:]
        ]
        last = top[0]
    return sign * last


def is_told_determinant(matrix, poly):
    """Tell if a polynomial is the determinant of a list of lists of polynomials."""
    size = len(matrix)
    if size > MOST_POLY_ROWS or any([len(row) != size for row in matrix]):
        return False
    degree = sum([max([len(entry) for entry in row] + [1]) - 1 for row in matrix])
    if degree > MOST_DEGREE or len(poly) > MOST_DEGREE:
        raise TooLarge("there are too many parts to be compared")
    told = [entry for row in matrix for entry in row] + [poly]
    if any([entry and entry[-1] == 0 for entry in told]) or len(poly) > degree + 1:
        return False
    for x in range(degree + 1):
        rows = [[_value_at(entry, x) for entry in row] for row in matrix]
        if _determinant(rows) != _value_at(poly, x):
            return False
    return True
