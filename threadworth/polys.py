"""Polynomials in d with integers."""

from threadworth.errors import BadNumber, NoAnswer, NotPoly, TooLarge
from threadworth.numbers import check_world, number

MOST_PARTS = 200
MOST_COUNT = 40
MOST_ROOT = 1000


def is_poly(poly):
    if len(poly) > MOST_PARTS:
        return False
    return len(poly) == 0 or poly[-1] != 0


def check_poly(poly):
    if not is_poly(poly):
        raise NotPoly("this tuple is no polynomial")


def added(one, other):
    check_poly(one)
    check_poly(other)
    return _combined(one, other, 1)


def subtracted(one, other):
    check_poly(one)
    check_poly(other)
    return _combined(one, other, -1)


def _combined(one, other, factor):
    size = max(len(one), len(other))
    return _trimmed([_part(one, k) + factor * _part(other, k) for k in range(size)])


def _part(poly, k):
    return poly[k] if k < len(poly) else 0


def _trimmed(parts):
    size = len(parts)
    while size > 0 and parts[size - 1] == 0:
        size = size - 1
    return tuple(parts[:size])


def multiplied_polys(one, other):
    check_poly(one)
    check_poly(other)
    if not one or not other:
        return ()
    if len(one) + len(other) - 1 > MOST_PARTS:
        raise TooLarge("the product has more than 200 parts")
    parts = [0] * (len(one) + len(other) - 1)
    for i, left in enumerate(one):
        for j, right in enumerate(other):
            parts[i + j] = parts[i + j] + left * right
    return tuple(parts)


def divided(one, other):
    """Return the polynomial whose product with the second one is the first one."""
    check_poly(one)
    check_poly(other)
    if not other:
        raise BadNumber("nothing is divided by 0")
    rest = list(one)
    found = []
    while len(rest) >= len(other):
        part, left = divmod(rest[-1], other[-1])
        if left != 0:
            raise NoAnswer("the quotient has no integers")
        found.append(part)
        shift = len(rest) - len(other)
        for k, factor in enumerate(other):
            rest[shift + k] = rest[shift + k] - part * factor
        rest.pop()
    if any(rest):
        raise NoAnswer("the division leaves a rest")
    return tuple(found[::-1])


def _split_off(parts, x):
    """Return the quotient by the polynomial (-x, 1), a list, and the value at x."""
    sums = []
    worth = 0
    for part in reversed(parts):
        worth = worth * x + part
        sums.append(worth)
    return sums[:-1][::-1], worth


def value_at(poly, x):
    check_poly(poly)
    _, worth = _split_off(poly, x)
    return worth


def value(world, poly):
    check_world(world)
    return number(world, value_at(poly, world[1]))


def roots(poly, *, most=MOST_ROOT):
    """Return the pairs of an integer root and how often it is one."""
    check_poly(poly)
    if not poly:
        raise NoAnswer("each integer is a root of 0")
    if not 0 <= most <= MOST_ROOT:
        raise BadNumber("the greatest size is not from 0 to 1000")
    found = []
    for x in range(-most, most + 1):
        many = _root_count(poly, x)
        if many > 0:
            found.append((x, many))
    return found


def _root_count(poly, x):
    many = 0
    quotient, worth = _split_off(poly, x)
    while worth == 0:
        many += 1
        quotient, worth = _split_off(quotient, x)
    return many


def _check_count(count):
    if not 0 <= count <= MOST_COUNT:
        raise BadNumber("the count is not from 0 to 40")


def falling(count):
    """Return the product of d, d - 1, d - 2, .., so many factors."""
    _check_count(count)
    product = (1,)
    for k in range(count):
        product = multiplied_polys(product, (-k, 1))
    return product


def rising(count):
    """Return the product of d, d + 1, d + 2, .., so many factors."""
    _check_count(count)
    product = (1,)
    for k in range(count):
        product = multiplied_polys(product, (k, 1))
    return product


def power_of_d(count):
    _check_count(count)
    return (0,) * count + (1,)


def by_falling(poly):
    """Return the integers that, times falling(0), falling(1), .., make the sum."""
    check_poly(poly)
    found = []
    rest = list(poly)
    for k in range(len(poly)):
        rest, worth = _split_off(rest, k)
        found.append(worth)
    return found
