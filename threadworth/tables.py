"""Tables of closings, their worths and determinants."""

from threadworth.diagrams import check_diagram, counted, listed
from threadworth.errors import BadNumber, TooLarge
from threadworth.linear import poly_determinant, rank
from threadworth.numbers import PRIMES, check_world, loop_powers
from threadworth.pieces import piece_count
from threadworth.polys import power_of_d, roots, value_at

MOST_IN_DETERMINANT = 30
MOST_SPOILT = 100


def joined(one, other):
    """Return the closing of two diagrams."""
    check_diagram(one)
    check_diagram(other)
    if one[:2] != other[:2]:
        raise BadNumber("the diagrams have not the same points")
    return joined_pieces(one, other)


def joined_pieces(one, other):
    """Return the closing of two diagrams that are known to be right."""
    return piece_count(one[0] + one[1], one[2] + other[2])


def check_count(family, n, m, most):
    """Check that a family has no more diagrams from n to m than so many."""
    if counted(family, n, m) > most:
        raise TooLarge("the family has too many diagrams")


def closings(family, n, m):
    """Return the table of a family."""
    diagrams = listed(family, n, m)
    table = [[0] * len(diagrams) for _ in diagrams]
    for i, one in enumerate(diagrams):
        for j, other in enumerate(diagrams[:i + 1]):
            # The table is symmetric.
            table[i][j] = table[j][i] = joined_pieces(one, other)
    return table


def worths(world, family, n, m):
    """Return the table of worths of a family."""
    check_world(world)
    table = closings(family, n, m)
    powers = loop_powers(world, n + m)
    return [[powers[k] for k in row] for row in table]


def determinant(family, n, m):
    """Return the determinant of the powers of d to the entries of the table."""
    check_count(family, n, m, MOST_IN_DETERMINANT)
    return poly_determinant([[power_of_d(k) for k in row] for row in closings(family, n, m)])


def spoilt(family, n, m):
    """Return the integers at which the determinant is 0, and how often."""
    return roots(determinant(family, n, m), most=MOST_SPOILT)


def spoilt_rests(family, n, m, p):
    """Return the rests at which something is lost in worlds with the prime p."""
    # The numbers of points come before the prime, and both before the size.
    counted(family, n, m)
    if p not in PRIMES:
        raise BadNumber("this is no prime to 31")
    poly = determinant(family, n, m)
    return [d for d in range(p) if value_at(poly, d) % p == 0]


def is_spoilt(world, family, n, m):
    """Tell if something of a family is lost."""
    check_world(world)
    check_count(family, n, m, MOST_IN_DETERMINANT)
    return rank(world, worths(world, family, n, m)) < counted(family, n, m)
