"""Words: rows of small diagrams, put together."""

from threadworth.basics import MOST_STRANDS, bridge, cut, hook, swap, unit
from threadworth.diagrams import check_family
from threadworth.errors import BadNumber, Malformed, NotWord
from threadworth.putting import put

MOST_LETTERS = 60
EMPTY_TEXT = "-"
KINDS = {
    "threads": "s", "loose": "sp", "pairs": "se", "lonepairs": "sep", "even": "seb",
    "parts": "sepb",
}


def letters(family, n):
    """Return the letters of a family, in order."""
    check_family(family)
    if not 0 <= n <= MOST_STRANDS:
        raise BadNumber("the number of strands is not from 0 to 6")
    return [(kind, i) for kind in KINDS[family] for i in range(n - _strands(kind) + 1)]


def _strands(kind):
    return 1 if kind == "p" else 2


def changed_strands(letter):
    """Return the list of the strands that a letter changes."""
    kind, i = letter
    return list(range(i, i + _strands(kind)))


def letter_diagram(n, letter):
    kind, i = letter
    if kind == "s":
        return swap(n, i)
    if kind == "e":
        return hook(n, i)
    if kind == "p":
        return cut(n, i)
    return bridge(n, i)


def is_word(n, word):
    # The family parts has all letters that there are.
    return len(word) <= MOST_LETTERS and _has_only(letters("parts", n), word)


def _has_only(allowed, word):
    return all([letter in allowed for letter in word])


def check_word(n, word):
    if not is_word(n, word):
        raise NotWord("this tuple is no word on so many strands")


def diagram_of(n, word):
    """Return the loops and the diagram of a word."""
    check_word(n, word)
    loops = 0
    made = unit(n)
    for letter in word:
        more, made = put(made, letter_diagram(n, letter))
        loops = loops + more
    return (loops, made)


def is_word_of(family, n, word):
    allowed = letters(family, n)
    check_word(n, word)
    return _has_only(allowed, word)


def word_text(n, word):
    check_word(n, word)
    if not word:
        return EMPTY_TEXT
    return " ".join([_letter_text(letter) for letter in word])


def _letter_text(letter):
    kind, i = letter
    return kind + str(i)


def read_word(n, text):
    """Return the word of which this is the text."""
    told = {_letter_text(letter): letter for letter in letters("parts", n)}
    if text == EMPTY_TEXT:
        return ()
    found = []
    for at, part in enumerate(text.split(" ")):
        if at == MOST_LETTERS or part not in told:
            raise Malformed(at)
        found.append(told[part])
    return tuple(found)
