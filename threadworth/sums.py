"""Sums of diagrams with numbers of a world."""

from threadworth.basics import unit
from threadworth.diagrams import check_diagram, check_family, is_before, is_in, labels
from threadworth.errors import BadNumber, Malformed
from threadworth.numbers import (
    ONE, PRIMES, ZERO, check_number, check_world, is_world, loop_powers, minus, number_text, plus,
    read_any_number, times,
)
from threadworth.putting import beside, closing, over, put
from threadworth.texts import read_diagram, text_of

MOST_SUM_POINTS = 8


class Sum:
    """A sum from n to m; each diagram with a number other than 0 is a term."""

    def __init__(self, world, n, m, terms):
        check_world(world)
        check_sum_size(n, m)
        added = {}
        for diagram, x in terms:
            _check_points(n, m, diagram)
            added[diagram] = plus(world, added.get(diagram, ZERO), x)
        ordered = sorted([(labels(diagram), diagram) for diagram in added])
        self.world = world
        self.n = n
        self.m = m
        self._numbers = {
            diagram: added[diagram] for _, diagram in ordered if added[diagram] != ZERO
        }

    def terms(self):
        """Return the list of the terms, in order."""
        return list(self._numbers.items())

    def at(self, diagram):
        """Return the number of a diagram."""
        _check_points(self.n, self.m, diagram)
        return self._numbers.get(diagram, ZERO)

    def __add__(self, other):
        _check_same_points(self, other)
        return Sum(self.world, self.n, self.m, self.terms() + other.terms())

    def __sub__(self, other):
        return self + (-other)

    def __neg__(self):
        turned = [(diagram, minus(self.world, ZERO, x)) for diagram, x in self.terms()]
        return Sum(self.world, self.n, self.m, turned)

    def __mul__(self, other):
        _check_same_world(self, other)
        if self.m != other.n:
            raise BadNumber("the points do not fit")
        check_sum_size(self.n, other.m)
        return Sum(self.world, self.n, other.m, _put_terms(self, other))

    def __eq__(self, other):
        return (
            isinstance(other, Sum) and self.world == other.world and self.n == other.n
            and self.m == other.m and self._numbers == other._numbers
        )

    def __len__(self):
        return len(self._numbers)

    def __bool__(self):
        return bool(self._numbers)

    def scaled(self, number):
        """Return the sum multiplied by a number."""
        check_number(self.world, number)
        products = [(diagram, times(self.world, x, number)) for diagram, x in self.terms()]
        return Sum(self.world, self.n, self.m, products)

    def beside(self, other):
        """Return the sum with another one to the right of it."""
        _check_same_world(self, other)
        check_sum_size(self.n + other.n, self.m + other.m)
        products = [
            (beside(one, two), times(self.world, x, y))
            for one, x in self.terms() for two, y in other.terms()
        ]
        return Sum(self.world, self.n + other.n, self.m + other.m, products)

    def over(self):
        """Return the sum turned over."""
        turned = [(over(diagram), x) for diagram, x in self.terms()]
        return Sum(self.world, self.m, self.n, turned)

    def worth(self):
        """Return the worth of a sum with as many points above as below."""
        if self.n != self.m:
            raise BadNumber("there are not as many points above as below")
        powers = loop_powers(self.world, self.n)
        found = ZERO
        for diagram, x in self.terms():
            found = plus(self.world, found, times(self.world, x, powers[closing(diagram)]))
        return found

    def is_in(self, family):
        """Tell if all diagrams of the sum are in a family."""
        check_family(family)
        return all([is_in(family, diagram) for diagram in self._numbers])


def check_sum_size(n, m):
    if n < 0 or m < 0 or n + m > MOST_SUM_POINTS:
        raise BadNumber("there are no sums with so many points")


def _check_points(n, m, diagram):
    check_diagram(diagram)
    if diagram[:2] != (n, m):
        raise BadNumber("the diagram has other points than the sum")


def _check_same_world(one, other):
    if one.world != other.world:
        raise BadNumber("the worlds differ")


def _check_same_points(one, other):
    _check_same_world(one, other)
    if one.n != other.n or one.m != other.m:
        raise BadNumber("the points differ")


def _put_terms(one, other):
    """Return the pairs of a diagram and a number that make up the product."""
    world = one.world
    powers = loop_powers(world, one.m)
    found = []
    for upper, x in one.terms():
        for lower, y in other.terms():
            loops, made = put(upper, lower)
            found.append((made, times(world, times(world, x, y), powers[loops])))
    return found


def unit_sum(world, n):
    """Return the sum of the unit alone."""
    # The world comes before the number of points, which the unit checks, too.
    check_world(world)
    return Sum(world, n, n, [(unit(n), ONE)])


def zero_sum(world, n, m):
    return Sum(world, n, m, [])


def text_of_sum(one):
    words = [str(k) for k in (*one.world, one.n, one.m)]
    for diagram, x in one.terms():
        words = words + [number_text(one.world, x), text_of(diagram)]
    return " ".join(words)


def read_sum(text):
    """Return the sum of which this is the text."""
    words = text.split(" ")
    p = _chosen(words, 0, [0] + list(PRIMES))
    d = _chosen(words, 1, [k for k in range(-20, max(PRIMES)) if is_world((p, k))])
    n = _chosen(words, 2, list(range(MOST_SUM_POINTS + 1)))
    m = _chosen(words, 3, list(range(MOST_SUM_POINTS + 1 - n)))
    terms = []
    for at in range(4, len(words), 2):
        x = _read_factor((p, d), words, at)
        terms.append((_read_behind(terms, n, m, words, at + 1), x))
    return Sum((p, d), n, m, terms)


def _word(words, at):
    if at == len(words):
        raise Malformed(at)
    return words[at]


def _chosen(words, at, allowed):
    """Return the one of some integers of which a word is the decimal form."""
    word = _word(words, at)
    found = [k for k in allowed if str(k) == word]
    if not found:
        raise Malformed(at)
    return found[0]


def _read_factor(world, words, at):
    try:
        x = read_any_number(world, _word(words, at))
    except Malformed:
        raise Malformed(at) from None
    if x == ZERO:
        raise Malformed(at)
    return x


def _read_behind(terms, n, m, words, at):
    """Return the diagram from n to m of a word, behind those of the terms."""
    try:
        diagram = read_diagram(_word(words, at))
    except Malformed:
        raise Malformed(at) from None
    if diagram[:2] != (n, m) or (terms and not is_before(terms[-1][0], diagram)):
        raise Malformed(at)
    return diagram
