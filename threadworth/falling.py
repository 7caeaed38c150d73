"""Arrangements of threads, their falls, and the rests of sums of threads."""

from itertools import permutations

from threadworth.diagrams import is_in
from threadworth.errors import BadNumber, NotDiagram
from threadworth.numbers import ZERO, check_world, minus, number, times
from threadworth.sums import Sum

MOST_PLACES = 5
MOST_COUNTED = 12


def _check_fractions(world):
    check_world(world)
    if world[0] != 0:
        raise BadNumber("the world is not one of fractions")


def _check_places(places):
    if sorted(places) != list(range(len(places))):
        raise NotDiagram("this tuple is no arrangement")
    if len(places) > MOST_PLACES:
        raise BadNumber("the arrangement has more than 5 places")


def _longest_allowed(world):
    """Return the greatest length of a fall of a kept arrangement."""
    return abs(world[1])


def arrangement(diagram):
    """Return the places below to which the points above are joined."""
    if not is_in("threads", diagram):
        raise BadNumber("the diagram is no thread")
    # The blocks stand in the order of their points above.
    return tuple([below - diagram[0] for _, below in diagram[2]])


def thread(places):
    """Return the diagram of an arrangement."""
    _check_places(places)
    return _thread(places)


def _thread(places):
    n = len(places)
    return (n, n, tuple([(k, n + place) for k, place in enumerate(places)]))


def sign(places):
    _check_places(places)
    return _sign(places)


def _sign(places):
    return 1 if _descents(places) % 2 == 0 else -1


def _descents(places):
    """Return the number of the pairs whose places descend."""
    return len([1 for k, high in enumerate(places) for low in places[k + 1:] if high > low])


def longest_fall(places):
    """Return the indexes of the first one of the longest falls."""
    _check_places(places)
    return _longest_fall(places)


def _longest_fall(places):
    longest = []
    falls = [[]]
    while falls:
        # Falls of one length stand in order, so that the first one is wanted.
        longest = falls[0]
        falls = [
            fall + [k] for fall in falls for k in range(len(places)) if _goes_on(places, fall, k)
        ]
    return longest


def _goes_on(places, fall, k):
    return not fall or (fall[-1] < k and places[fall[-1]] > places[k])


def is_kept(world, places):
    """Tell if an arrangement has no fall that is too long."""
    _check_fractions(world)
    _check_places(places)
    return len(_longest_fall(places)) <= _longest_allowed(world)


def kept(world, n):
    """Return the list of the kept arrangements, in ascending order."""
    _check_fractions(world)
    if not 0 <= n <= MOST_PLACES:
        raise BadNumber("the number of places is not from 0 to 5")
    return [places for places in permutations(range(n)) if is_kept(world, places)]


def kept_number(world, n):
    """Return the number of the kept arrangements, without listing them."""
    _check_fractions(world)
    if not 0 <= n <= MOST_COUNTED:
        raise BadNumber("the number of places is not from 0 to 12")
    return sum([many * many for many in _fillings(n, _longest_allowed(world)).values()])


def _fillings(n, most):
    """Return a dict of the numbers of fillings by the shapes with at most so many integers.

    The greatest integer of a filling stands at the end of a row, so that the
    fillings of a shape are those of the shapes with one cell less.
    """
    counts = {(): 1}
    for _ in range(n):
        longer = {}
        for shape, many in counts.items():
            for grown in _grown_shapes(shape):
                if len(grown) <= most:
                    longer[grown] = longer.get(grown, 0) + many
        counts = longer
    return counts


def _grown_shapes(shape):
    """Return the list of the shapes that have one cell more than a shape."""
    found = [shape + (1,)]
    for i, size in enumerate(shape):
        if i == 0 or shape[i - 1] > size:
            found.append(shape[:i] + (size + 1,) + shape[i + 1:])
    return found


def _check_indexes(places, indexes):
    _check_places(places)
    if not all([0 <= k < len(places) for k in indexes]):
        raise BadNumber("there is no such index")
    if not all([low < high for low, high in zip(indexes, indexes[1:])]):
        raise BadNumber("the indexes do not ascend")


def exchanges(places, indexes):
    """Return the arrangements that have the same places at some indexes, exchanged."""
    _check_indexes(places, indexes)
    return _exchanges(places, indexes)


def _exchanges(places, indexes):
    chosen = [places[k] for k in indexes]
    return sorted([_exchanged(places, indexes, row) for row in permutations(chosen)])


def _exchanged(places, indexes, row):
    found = list(places)
    for k, place in zip(indexes, row):
        found[k] = place
    return tuple(found)


def _factor(world, places):
    """Return the number of an arrangement in a sum of exchanges that is lost."""
    return number(world, _sign(places) if world[1] > 0 else 1)


def lost_exchange(world, places, indexes):
    """Return the sum of exchanges that is lost."""
    _check_fractions(world)
    _check_indexes(places, indexes)
    if len(indexes) != _longest_allowed(world) + 1:
        raise BadNumber("there are not as many indexes as a sum of exchanges needs")
    n = len(places)
    terms = [
        (_thread(other), _factor(world, other)) for other in _exchanges(places, indexes)
    ]
    # A sum has no room for more than 4 places.
    return Sum(world, n, n, terms)


def rest_of(one):
    """Return the sum of kept threads that is alike to a sum of threads."""
    if one.world[0] != 0 or one.n != one.m or not one.is_in("threads"):
        raise BadNumber("this is no sum of threads with fractions")
    size = _longest_allowed(one.world) + 1
    numbers = {arrangement(diagram): x for diagram, x in one.terms()}
    # What takes the place of an arrangement has fewer pairs that descend.
    for places in _by_descents(one.n):
        fall = _longest_fall(places)
        if len(fall) >= size and numbers.get(places, ZERO) != ZERO:
            numbers = _with_exchanges(one.world, numbers, places, fall[:size])
    terms = [(_thread(places), x) for places, x in numbers.items()]
    return Sum(one.world, one.n, one.n, terms)


def _by_descents(n):
    """Return all arrangements, those with the most pairs that descend first."""
    return sorted(list(permutations(range(n))), key=_descents, reverse=True)


def _with_exchanges(world, numbers, places, fall):
    """Return the numbers with other exchanges in place of an arrangement.

    The sum of all exchanges at the fall is lost. As much of it is taken away
    as makes the arrangement's own number 0.
    """
    found = {other: numbers[other] for other in numbers}
    many = times(world, numbers[places], _factor(world, places))
    for other in _exchanges(places, fall):
        part = times(world, many, _factor(world, other))
        found[other] = minus(world, found.get(other, ZERO), part)
    return found


def are_alike_threads(one, other):
    """Tell if two sums of threads are alike."""
    if one.world != other.world or one.n != other.n:
        raise BadNumber("the worlds or the numbers of points differ")
    return rest_of(one) == rest_of(other)
