"""What groups of points join: the pieces."""


def piece_marks(size, groups):
    """Return a mark for each point from 0 to size - 1, equal for one piece."""
    parents = list(range(size))
    for group in groups:
        for point in group[1:]:
            low = _root(parents, group[0])
            parents[_root(parents, point)] = low
    return [_root(parents, point) for point in range(size)]


def _root(parents, point):
    found = point
    while parents[found] != found:
        found = parents[found]
    return found


def piece_count(size, groups):
    return len(set(piece_marks(size, groups)))


def hidden_count(marks, shown):
    """Return the number of the pieces of which no mark is shown."""
    return len(set(marks) - set(shown))
