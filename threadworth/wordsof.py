"""The first words of diagrams."""

from threadworth.basics import unit
from threadworth.diagrams import MOST_LISTED, counted, is_in
from threadworth.errors import BadNumber, TooLarge
from threadworth.putting import put
from threadworth.words import letter_diagram, letters


def first_word(family, diagram):
    """Return the first word of a diagram in a family."""
    inside = is_in(family, diagram)
    n, m, _ = diagram
    if n != m or not inside:
        raise BadNumber("the diagram has no words in this family")
    return _first_words(family, n, diagram)[diagram]


def lengths(family, n):
    """Return how many first words have 0, 1, 2, .. letters."""
    sizes = [len(word) for word in _first_words(family, n, None).values()]
    return [sizes.count(size) for size in range(max(sizes) + 1)]


def _first_words(family, n, wanted):
    """Return a dict of first words by their diagrams, at least to the wanted one.

    Each beginning of a first word is a first word. So if the words grow by one
    letter at a time, in order, a diagram is met by its first word first.
    """
    drawn = [(letter, letter_diagram(n, letter)) for letter in letters(family, n)]
    if counted(family, n, n) > MOST_LISTED:
        raise TooLarge("there are more than 250 diagrams")
    words = {unit(n): ()}
    newest = [unit(n)]
    while newest and wanted not in words:
        following = []
        for diagram in newest:
            for letter, lower in drawn:
                _, made = put(diagram, lower)
                if made not in words:
                    words[made] = words[diagram] + (letter,)
                    following.append(made)
        newest = following
    return words
