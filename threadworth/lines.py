"""Lines of text and their words."""

SMALL_LETTERS = "abcdefghijklmnopqrstuvwxyz"
MOST_IN_NAME = 12
MOST_FIGURES = 2


def words_of(line):
    """Return the words of a line, or None if it is malformed."""
    words = line.split(" ")
    if not all([_is_word(word) for word in words]):
        return None
    return words


def _is_word(word):
    return len(word) > 0 and all(["!" <= sign <= "~" for sign in word])


def is_name(word):
    """Tell if a word is 1 to 12 small letters."""
    if not 1 <= len(word) <= MOST_IN_NAME:
        return False
    return all([sign in SMALL_LETTERS for sign in word])


def number_in(word):
    """Return the integer from 0 to 99 that a word writes, or None."""
    if not word.isascii() or not word.isdigit() or len(word) > MOST_FIGURES:
        return None
    if len(word) > 1 and word[0] == "0":
        return None
    return int(word)
