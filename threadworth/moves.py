"""Steps and chains between words."""

from threadworth.errors import Malformed, NoAnswer
from threadworth.words import MOST_LETTERS, changed_strands, check_word, is_word

APART = "apart"
RULE = "rule"
BACK = "back"
RULES = (
    ("s0 s0", "", 0),
    ("s0 s1 s0", "s1 s0 s1", 0),
    ("e0 e0", "e0", 1),
    ("e0 s0", "e0", 0),
    ("s0 e0", "e0", 0),
    ("e0 e1 e0", "e0", 0),
    ("e1 e0 e1", "e1", 0),
    ("s0 e1 e0", "s1 e0", 0),
    ("e0 e1 s0", "e0 s1", 0),
    ("p0 p0", "p0", 1),
    ("s0 p0", "p1 s0", 0),
    ("s0 p0 p1", "p0 p1", 0),
    ("b0 b0", "b0", 0),
    ("b0 s0", "b0", 0),
    ("s0 b0", "b0", 0),
    ("b0 p0 b0", "b0", 0),
    ("p0 b0 p0", "p0", 0),
    ("b0 b1", "b1 b0", 0),
    ("s0 s1 b0", "b1 s0 s1", 0),
    ("e0 p0", "e0 p1", 0),
    ("p0 e0", "p1 e0", 0),
    ("e0 p0 e0", "e0", 1),
    ("p0 e0 p0", "p0 p1", 0),
    ("b0 e0", "e0", 0),
    ("e0 b0", "e0", 0),
    ("e0 b1 e0", "e0", 0),
)


def rules():
    """Return the list of the rules: left side, right side, loops."""
    return [_sides(number) for number in range(len(RULES))]


def _sides(number):
    left, right, loops = RULES[number]
    return (_side(left), _side(right), loops)


def _side(text):
    return tuple([(letter[0], int(letter[1])) for letter in text.split()])


def _shifted(side, i):
    return tuple([(kind, k + i) for kind, k in side])


def _after(n, word, step):
    """Return the word after a step and its loops, or None if it is not allowed."""
    if step[0] == APART:
        return _exchanged(word, step[1])
    return _replaced(n, word, step)


def _exchanged(word, at):
    if not 0 <= at < len(word) - 1 or not _are_apart(word[at], word[at + 1]):
        return None
    return (word[:at] + (word[at + 1], word[at]) + word[at + 2:], 0)


def _are_apart(one, other):
    strands = changed_strands(other)
    return not any([strand in strands for strand in changed_strands(one)])


def _replaced(n, word, step):
    direction, number, at, i = step
    if not 0 <= number < len(RULES):
        return None
    old, new, loops = _sides(number)
    if direction == BACK:
        old, new, loops = new, old, -loops
    old = _shifted(old, i)
    new = _shifted(new, i)
    end = at + len(old)
    # A side without letters is found even beyond the end of the word.
    if at < 0 or end > len(word) or word[at:end] != old:
        return None
    # The old letters stand in the word, so that only the new ones may be none.
    if not is_word(n, new) or len(word) - len(old) + len(new) > MOST_LETTERS:
        return None
    return (word[:at] + new + word[end:], loops)


def stepped(n, word, step):
    """Return the word after a step, and the loops that the step takes."""
    check_word(n, word)
    found = _after(n, word, step)
    if found is None:
        raise NoAnswer("the step is not allowed")
    return found


def walked(n, word, chain):
    """Return the word to which a chain leads, and the loops that it takes."""
    check_word(n, word)
    taken = 0
    for at, step in enumerate(chain):
        found = _after(n, word, step)
        if found is None:
            raise Malformed(at)
        word, loops = found
        taken = taken + loops
    return (word, taken)


def undone(n, word, chain):
    """Return the chain that leads back."""
    walked(n, word, chain)
    return [_turned(step) for step in chain[::-1]]


def _turned(step):
    if step[0] == APART:
        return step
    direction, number, at, i = step
    return (RULE if direction == BACK else BACK, number, at, i)


def steps_of(n, word):
    """Return all steps that are allowed in a word, in order."""
    check_word(n, word)
    tried = [(APART, at) for at in range(len(word))]
    for direction in (RULE, BACK):
        tried = tried + [
            (direction, number, at, i) for number in range(len(RULES))
            for at in range(len(word) + 1) for i in range(n)
        ]
    return [step for step in tried if _after(n, word, step) is not None]
