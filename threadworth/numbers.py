"""Worlds and their numbers: fractions, or rests by a prime."""

from math import gcd

from threadworth.errors import BadNumber, Malformed, NotNumber, NotWorld

PRIMES = (2, 3, 5, 7, 11, 13, 17, 19, 23, 29, 31)
ZERO = (0, 1)
ONE = (1, 1)
MOST_FIGURES = 60
MOST_POWER = 200
CHUNK_FIGURES = 60
CHUNK = 10 ** 60


def is_world(world):
    p, d = world
    if p == 0:
        return -20 <= d <= 20
    return p in PRIMES and 0 <= d < p


def check_world(world):
    if not is_world(world):
        raise NotWorld("this pair is no world")


def is_number(world, x):
    check_world(world)
    p, _ = world
    a, b = x
    if p == 0:
        return b >= 1 and gcd(a, b) == 1
    return b == 1 and 0 <= a < p


def check_number(world, x):
    if not is_number(world, x):
        raise NotNumber("this pair is no number of the world")


def number(world, a, b=1):
    """Return the number a / b."""
    check_world(world)
    p, _ = world
    if b == 0 or (p > 0 and b % p == 0):
        raise BadNumber("there is no number with this denominator")
    if p > 0:
        return (a * _inverse(p, b) % p, 1)
    return _lowest(a, b)


def _lowest(a, b):
    shared = gcd(a, b)
    if b < 0:
        shared = -shared
    return (a // shared, b // shared)


def _inverse(p, b):
    # p is at most 31, so that trying is quick.
    rest = b % p
    found = 1
    while found * rest % p != 1:
        found += 1
    return found


def _check_two(world, x, y):
    check_number(world, x)
    check_number(world, y)


def plus(world, x, y):
    _check_two(world, x, y)
    return number(world, x[0] * y[1] + y[0] * x[1], x[1] * y[1])


def minus(world, x, y):
    _check_two(world, x, y)
    return number(world, x[0] * y[1] - y[0] * x[1], x[1] * y[1])


def times(world, x, y):
    _check_two(world, x, y)
    return number(world, x[0] * y[0], x[1] * y[1])


def over(world, x, y):
    """Return the number whose product with y is x; there is none for y = 0."""
    _check_two(world, x, y)
    return number(world, x[0] * y[1], x[1] * y[0])


def power(world, x, count):
    check_number(world, x)
    if not 0 <= count <= MOST_POWER:
        raise BadNumber("the count is not from 0 to 200")
    found = ONE
    for _ in range(count):
        found = times(world, found, x)
    return found


def loop_worth(world):
    """Return the worth of a closed piece."""
    check_world(world)
    return (world[1], 1)


def loop_powers(world, most):
    """Return the list of the worths of 0, 1, 2, .. closed pieces."""
    return [power(world, loop_worth(world), count) for count in range(most + 1)]


def number_text(world, x):
    check_number(world, x)
    a, b = x
    if b == 1:
        return _integer_text(a)
    return _integer_text(a) + "/" + _integer_text(b)


def _integer_text(k):
    # Python refuses to write integers of some thousand figures at once, so
    # that long ones are written in chunks.
    rest = abs(k)
    chunks = []
    while rest >= CHUNK:
        rest, low = divmod(rest, CHUNK)
        chunks.append(str(low).zfill(CHUNK_FIGURES))
    chunks.append(str(rest))
    sign = "-" if k < 0 else ""
    return sign + "".join(chunks[::-1])


def read_number(world, text):
    """Return the number of which this is the text, unless that is a long one."""
    check_world(world)
    if not all([_figure_count(word) <= MOST_FIGURES for word in text.split("/")]):
        raise Malformed(0)
    return read_any_number(world, text)


def _figure_count(word):
    return len(word.removeprefix("-"))


def read_any_number(world, text):
    """Return the number of which this is the text, whatever its length."""
    words = text.split("/")
    if len(words) > 2 or not all([_is_integer(word) for word in words]):
        raise Malformed(0)
    x = (_integer_of(words[0]), _integer_of(words[1]) if len(words) == 2 else 1)
    # Only one text is right for each number: not -0, 007, 2/4 or 3/1.
    if not is_number(world, x) or number_text(world, x) != text:
        raise Malformed(0)
    return x


def _is_integer(word):
    figures = word.removeprefix("-")
    return figures.isascii() and figures.isdigit()


def _integer_of(word):
    # Like the writing, the reading of long integers goes by chunks.
    figures = word.removeprefix("-")
    first = len(figures) % CHUNK_FIGURES
    found = int("0" + figures[:first])
    for at in range(first, len(figures), CHUNK_FIGURES):
        found = found * CHUNK + int(figures[at:at + CHUNK_FIGURES])
    return -found if word.startswith("-") else found
