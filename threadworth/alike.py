"""Sums that have the same worth in every closing."""

from threadworth.contexts import fits, outside
from threadworth.diagrams import MOST_LISTED, check_family, is_diagram, is_in, listed
from threadworth.errors import BadNumber
from threadworth.linear import dot, echelon, kernel, leading_columns
from threadworth.numbers import ONE, ZERO, check_world, loop_powers, loop_worth, power, times
from threadworth.putting import over
from threadworth.sums import Sum, check_sum_size
from threadworth.tables import check_count, joined_pieces, worths

MOST_IN_BASIS = 60


def _check_sums(sums, family, most):
    for one in sums:
        if not one.is_in(family):
            raise BadNumber("a sum is not in the family")
    first = sums[0]
    for one in sums[1:]:
        if (one.world, one.n, one.m) != (first.world, first.n, first.m):
            raise BadNumber("the sums have other worlds or points")
    check_count(family, first.n, first.m, most)


def _worth_with(one, diagram):
    """Return the worth of the product of a sum and a diagram."""
    turned = over(diagram)
    powers = loop_powers(one.world, one.n + one.m)
    row = [powers[joined_pieces(term, turned)] for term, _ in one.terms()]
    return dot(one.world, [x for _, x in one.terms()], row)


def _worths(one, family):
    return [_worth_with(one, diagram) for diagram in listed(family, one.m, one.n)]


def worths_of(one, family):
    """Return the worths of a sum with the diagrams of a family."""
    _check_sums([one], family, MOST_LISTED)
    return _worths(one, family)


def is_lost(one, family):
    return all([worth == ZERO for worth in worths_of(one, family)])


def are_alike(one, other, family):
    return apart(one, other, family) is None


def apart(one, other, family):
    """Return the first diagram with which two sums have other worths, or None."""
    _check_sums([one, other], family, MOST_LISTED)
    for diagram in listed(family, one.m, one.n):
        if _worth_with(one, diagram) != _worth_with(other, diagram):
            return diagram
    return None


def decide(one, other, family):
    """Return the answer for two sums."""
    found = apart(one, other, family)
    if found is None:
        return ("alike", _worths(one, family))
    return ("apart", found)


def is_answer(one, other, family, answer):
    """Tell if a tuple is an answer for two sums."""
    _check_sums([one, other], family, MOST_LISTED)
    kind, told = answer
    if kind == "alike":
        return _worths(one, family) == told and _worths(other, family) == told
    if kind != "apart" or not isinstance(told, tuple) or not is_diagram(told):
        return False
    if told[:2] != (one.m, one.n) or not is_in(family, told):
        return False
    return _worth_with(one, told) != _worth_with(other, told)


def _table(world, family, n, m):
    """Return the list of the diagrams and the table of worths as a matrix."""
    check_count(family, n, m, MOST_IN_BASIS)
    return listed(family, n, m), worths(world, family, n, m)


def _check_basis(world, family, n, m):
    check_world(world)
    check_family(family)
    check_sum_size(n, m)


def lost_basis(world, family, n, m):
    """Return a basis of the lost sums of a family."""
    _check_basis(world, family, n, m)
    diagrams, table = _table(world, family, n, m)
    return [
        Sum(world, n, m, list(zip(diagrams, vector))) for vector in kernel(world, table)
    ]


def kept(world, family, n, m):
    """Return the list of the kept diagrams, in order."""
    _check_basis(world, family, n, m)
    diagrams, table = _table(world, family, n, m)
    return [diagrams[column] for column in leading_columns(world, table)]


def plain(one, family):
    """Return the sum of kept diagrams that is alike to a sum."""
    _check_sums([one], family, MOST_IN_BASIS)
    world = one.world
    diagrams, table = _table(world, family, one.n, one.m)
    numbers = [one.at(diagram) for diagram in diagrams]
    # Sums are alike if the echelon form takes both to the same list, and it
    # takes a sum of kept diagrams to the list of their numbers.
    terms = [
        (diagrams[row.index(ONE)], dot(world, row, numbers)) for row in echelon(world, table)
    ]
    return Sum(world, one.n, one.m, terms)


def worth_in_context(one, u, v, left, right):
    """Return the worth of a sum in a context."""
    if fits(u, v, left, right) != (one.n, one.m):
        raise BadNumber("the sum does not fit into the context")
    loops, around = outside(u, v, left, right)
    beyond = power(one.world, loop_worth(one.world), loops)
    return times(one.world, _worth_with(one, around), beyond)
