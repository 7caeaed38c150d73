"""Sums with a strand more or less, and averages."""

from math import factorial

from threadworth.basics import hook
from threadworth.diagrams import listed
from threadworth.errors import BadNumber, NoAnswer
from threadworth.falling import arrangement, sign
from threadworth.numbers import ONE, check_world, loop_powers, number, times
from threadworth.putting import closed_end
from threadworth.sums import Sum, unit_sum

MOST_STRANDS = 4
MOST_COUNTED = 20


def grown(one):
    """Return the sum with a strand more."""
    return one.beside(unit_sum(one.world, 1))


def shrunk(one):
    """Return the sum with the ends of its diagrams closed by one point."""
    if one.n == 0 or one.m == 0:
        raise BadNumber("there are not points above and below")
    powers = loop_powers(one.world, 1)
    terms = []
    for diagram, x in one.terms():
        loops, made = closed_end(diagram, 1)
        terms.append((made, times(one.world, x, powers[loops])))
    return Sum(one.world, one.n - 1, one.m - 1, terms)


def hooked(one, other):
    """Return the product of two grown sums with a hook between them."""
    n = one.m
    # A hook that there is not, and sums that do not fit, are refused where they are made.
    between = Sum(one.world, n + 1, n + 1, [(hook(n + 1, n - 1), ONE)])
    return grown(one) * between * grown(other)


def _check_divisor(world, n):
    if 1 <= world[0] <= n:
        raise NoAnswer("in this world nothing is divided by so great a factorial")


def _check_average(world, n, most):
    check_world(world)
    if not 0 <= n <= most:
        raise BadNumber("the number of strands is out of range")
    _check_divisor(world, n)


def _average(world, n, signed):
    _check_average(world, n, MOST_STRANDS)
    terms = []
    for diagram in listed("threads", n, n):
        factor = sign(arrangement(diagram)) if signed else 1
        terms.append((diagram, number(world, factor, factorial(n))))
    return Sum(world, n, n, terms)


def average(world, n):
    """Return the average of all threads."""
    return _average(world, n, False)


def alternating(world, n):
    """Return the average of all threads, each with its sign."""
    return _average(world, n, True)


def _average_worth(world, n, step):
    _check_average(world, n, MOST_COUNTED)
    product = 1
    for k in range(n):
        product = product * (world[1] + step * k)
    return number(world, product, factorial(n))


def average_worth(world, n):
    """Return the worth of the average, also of more strands than a sum can have."""
    return _average_worth(world, n, 1)


def alternating_worth(world, n):
    """Return the worth of the alternating average, also of more strands."""
    return _average_worth(world, n, -1)


def averaged(one):
    """Return a sum between the averages."""
    above = average(one.world, one.n)
    below = average(one.world, one.m)
    return above * one * below


def alternated(one):
    """Return a sum between the alternating averages."""
    above = alternating(one.world, one.n)
    below = alternating(one.world, one.m)
    return above * one * below


def is_own_square(one):
    """Tell if a sum multiplied by itself is itself."""
    if one.n != one.m:
        raise BadNumber("there are not as many points above as below")
    return one * one == one


def hook_square(world, n, i):
    """Return the hook divided by the worth of a closed piece."""
    check_world(world)
    if n > MOST_STRANDS:
        raise BadNumber("the number of strands is out of range")
    diagram = hook(n, i)
    if world[1] == 0:
        raise NoAnswer("nothing is divided by 0")
    return Sum(world, n, n, [(diagram, number(world, 1, world[1]))])
