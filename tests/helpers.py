"""Things that several tests use; none of them calls the program."""

import copy
import itertools
from fractions import Fraction


def all_partitions(size):
    """All rows of labels of the points 0 .. size - 1, in ascending order."""
    rows = [()]
    for _ in range(size):
        rows = [row + (k,) for row in rows for k in range(max(row, default=-1) + 2)]
    return rows


def diagram_of_row(n, m, row):
    blocks = [
        tuple(point for point in range(n + m) if row[point] == k)
        for k in range(max(row, default=-1) + 1)
    ]
    return (n, m, tuple(blocks))


def family_test(family, n, blocks):
    """Tell by the words of the document if blocks are those of a family."""
    def strand(block):
        return len([p for p in block if p < n]) == 1 and len([p for p in block if p >= n]) == 1
    tests = {
        "threads": strand,
        "loose": lambda block: strand(block) or len(block) == 1,
        "pairs": lambda block: len(block) == 2,
        "lonepairs": lambda block: len(block) in (1, 2),
        "even": lambda block: len(block) % 2 == 0,
        "parts": lambda block: True,
    }
    return all(tests[family](block) for block in blocks)


def family_diagrams(family, n, m):
    """All diagrams of a family, in order, picked out of all partitions."""
    made = [diagram_of_row(n, m, row) for row in all_partitions(n + m)]
    return [diagram for diagram in made if family_test(family, n, diagram[2])]


def components(points, groups):
    """The sets of points that the groups join, found by spreading."""
    left = set(points)
    found = []
    while left:
        piece = {left.pop()}
        grown = True
        while grown:
            grown = False
            for group in groups:
                if piece & set(group) and not set(group) <= piece:
                    piece |= set(group)
                    grown = True
        left -= piece
        found.append(piece)
    return found


def named_groups(diagram, name):
    """The blocks with points told as (name, "above" or "below", place)."""
    n, _, blocks = diagram
    return [
        [(name, "above", p) if p < n else (name, "below", p - n) for p in block]
        for block in blocks
    ]


def named_points(diagram, name):
    n, m, _ = diagram
    return [(name, "above", k) for k in range(n)] + [(name, "below", k) for k in range(m)]


def diagram_of_components(above, below, pieces):
    """The diagram with these named points, in order, that pieces join."""
    order = above + below
    blocks = []
    for piece in pieces:
        block = tuple(k for k, point in enumerate(order) if point in piece)
        if block:
            blocks.append(block)
    return (len(above), len(below), tuple(sorted(blocks)))


def any_diagram(source, n, m):
    """A diagram with n and m points, drawn from a source of random numbers."""
    marks = [source.randrange((n + m + 3) // 2) for _ in range(n + m)]
    seen = {}
    return diagram_of_row(n, m, tuple(seen.setdefault(mark, len(seen)) for mark in marks))


def joined_up(diagrams, joints):
    """The pieces of named diagrams whose points are joined besides, by pairs."""
    points = []
    groups = [list(pair) for pair in joints]
    for name, diagram in diagrams.items():
        points += named_points(diagram, name)
        groups += named_groups(diagram, name)
    return components(points, groups)


def put_by_hand(one, other):
    """The loops and the diagram of one above the other, by components."""
    joints = [(("one", "below", k), ("other", "above", k)) for k in range(one[1])]
    pieces = joined_up({"one": one, "other": other}, joints)
    above = [("one", "above", k) for k in range(one[0])]
    below = [("other", "below", k) for k in range(other[1])]
    made = diagram_of_components(above, below, pieces)
    shown = set(above + below)
    return (len([piece for piece in pieces if not piece & shown]), made)


def closing_by_hand(diagram):
    joints = [(("x", "above", k), ("x", "below", k)) for k in range(diagram[0])]
    return len(joined_up({"x": diagram}, joints))


def context_worth_by_hand(x, u, v, left, right):
    """All pieces of u, v and x, with the strands beside x and the closing."""
    n, m, _ = x
    joints = [(("u", "below", left + k), ("x", "above", k)) for k in range(n)]
    joints += [(("x", "below", k), ("v", "above", left + k)) for k in range(m)]
    joints += [(("u", "below", k), ("v", "above", k)) for k in range(left)]
    joints += [
        (("u", "below", left + n + k), ("v", "above", left + m + k)) for k in range(right)
    ]
    joints += [(("u", "above", k), ("v", "below", k)) for k in range(u[0])]
    return len(joined_up({"u": u, "v": v, "x": x}, joints))


def sizes_up_to(most):
    return [
        (n, m) for n, m in itertools.product(range(9), range(9)) if n + m <= most
    ]


class Unchanged:
    """Checks that what was handed in is afterwards as it was before."""

    def __init__(self, test, *things):
        self.test = test
        self.things = things
        self.before = copy.deepcopy(things)

    def __enter__(self):
        return self.things

    def __exit__(self, kind, value, trace):
        if kind is None:
            self.test.assertEqual(self.things, self.before)


def letter_groups(letter, level):
    """The points (level, strand) and (level + 1, strand) that a letter joins."""
    kind, i = letter
    up, down = (level, i), (level + 1, i)
    if kind == "p":
        return (i,), [[up], [down]]
    up_right, down_right = (level, i + 1), (level + 1, i + 1)
    groups = {
        "s": [[up, down_right], [up_right, down]],
        "e": [[up, up_right], [down, down_right]],
        "b": [[up, up_right, down, down_right]],
    }
    return (i, i + 1), groups[kind]


def word_by_hand(n, word):
    """The loops and the diagram of a word, with all of its letters joined at once."""
    groups = []
    for level, letter in enumerate(word):
        changed, joined = letter_groups(letter, level)
        groups += joined
        groups += [
            [(level, k), (level + 1, k)] for k in range(n) if k not in changed
        ]
    above = [("above", k) for k in range(n)]
    below = [("below", k) for k in range(n)]
    groups += [[("above", k), (0, k)] for k in range(n)]
    groups += [[("below", k), (len(word), k)] for k in range(n)]
    points = [(level, k) for level in range(len(word) + 1) for k in range(n)]
    pieces = components(above + below + points, groups)
    made = diagram_of_components(above, below, pieces)
    shown = set(above + below)
    return (len([piece for piece in pieces if not piece & shown]), made)


def family_letters(family, n):
    kinds = {
        "threads": "s", "loose": "sp", "pairs": "se", "lonepairs": "sep", "even": "seb",
        "parts": "sepb",
    }
    return [
        (kind, i) for kind in kinds[family] for i in range(n if kind == "p" else n - 1)
    ]


def any_word(source, family, n, size):
    """A word of a family, drawn from a source of random numbers."""
    letters = family_letters(family, n)
    return tuple(source.choice(letters) for _ in range(size)) if letters else ()


def as_value(world, x):
    """A number of a world as a fraction or as a rest."""
    return Fraction(*x) if world[0] == 0 else x[0]


def as_number(world, worth):
    """The number of a world for a fraction or an integer."""
    worth = Fraction(worth)
    if world[0] == 0:
        return (worth.numerator, worth.denominator)
    return (worth.numerator * pow(worth.denominator, -1, world[0]) % world[0], 1)


def any_number(source, world):
    """A number of a world, drawn, and now and then 0."""
    p = world[0]
    if p:
        return (source.randrange(p), 1)
    return as_number(world, Fraction(source.randrange(-9, 10), source.randrange(1, 8)))


def any_terms(source, world, diagrams, many):
    """Pairs of a drawn diagram, perhaps one several times, and a drawn number."""
    if not diagrams:
        return []
    return [(source.choice(diagrams), any_number(source, world)) for _ in range(many)]


def added_terms(world, pairs):
    """A dict of the numbers of all diagrams of pairs; none of them is 0."""
    found = {}
    for diagram, x in pairs:
        found[diagram] = found.get(diagram, 0) + as_value(world, x)
    numbers = {diagram: as_number(world, worth) for diagram, worth in found.items()}
    return {diagram: x for diagram, x in numbers.items() if x != (0, 1)}


def reduced_rows(world, rows):
    """The echelon form of rows of fractions or rests, and its leading columns."""
    p = world[0]
    rows = [list(row) for row in rows]
    leading = []
    for column in range(len(rows[0]) if rows else 0):
        done = len(leading)
        at = next((k for k in range(done, len(rows)) if rows[k][column] != 0), None)
        if at is None:
            continue
        rows[done], rows[at] = rows[at], rows[done]
        inverse = pow(rows[done][column], -1, p) if p else 1 / Fraction(rows[done][column])
        rows[done] = [as_rest(p, x * inverse) for x in rows[done]]
        for k, row in enumerate(rows):
            if k != done:
                rows[k] = [as_rest(p, x - row[column] * y) for x, y in zip(row, rows[done])]
        leading.append(column)
    return rows[:len(leading)], leading


def as_rest(p, worth):
    return worth % p if p else worth


def as_values(world, matrix):
    return [[as_value(world, x) for x in row] for row in matrix]


def as_numbers(world, rows):
    return [[as_number(world, x) for x in row] for row in rows]


def raised_d(world, count):
    """d multiplied by itself so many times, as an integer; 0 to 0 is 1."""
    found = 1
    for _ in range(count):
        found = found * world[1]
    return found
