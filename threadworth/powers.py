"""Powers of diagrams, and squares."""

from threadworth.basics import unit
from threadworth.diagrams import check_diagram, listed
from threadworth.errors import BadNumber
from threadworth.putting import put

MOST_POWER = 10 ** 40


def _check(diagram):
    check_diagram(diagram)
    if diagram[0] != diagram[1]:
        raise BadNumber("there are not as many points above as below")


def _powers(diagram):
    """Return the powers until they come round, and the start.

    Each power is the pair of its loops and its diagram. The last one has the
    diagram of the one with the index of the start.
    """
    found = [(0, unit(diagram[0]))]
    indexes = {}
    while found[-1][1] not in indexes:
        loops, made = found[-1]
        indexes[made] = len(found) - 1
        more, longer = put(made, diagram)
        found.append((loops + more, longer))
    return found, indexes[found[-1][1]]


def power(diagram, count):
    """Return the loops and the diagram of a power."""
    _check(diagram)
    if not 0 <= count <= MOST_POWER:
        raise BadNumber("the count is not from 0 to 10 ** 40")
    powers, start = _powers(diagram)
    if count < start:
        return powers[count]
    rounds, beyond = divmod(count - start, len(powers) - 1 - start)
    loops, made = powers[start + beyond]
    return (loops + rounds * (powers[-1][0] - powers[start][0]), made)


def start_and_round(diagram):
    """Return the start, and the round: the powers after which one comes again."""
    _check(diagram)
    powers, start = _powers(diagram)
    return (start, len(powers) - 1 - start)


def is_square(diagram):
    """Tell if the diagram above itself is the diagram again, but for loops."""
    _check(diagram)
    _, made = put(diagram, diagram)
    return made == diagram


def squares(family, n):
    """Return the squares of a family, in order."""
    return [diagram for diagram in listed(family, n, n) if is_square(diagram)]
