"""The desk: sums by names, and lines of text that work with them."""

from threadworth.alike import apart, decide, is_lost, plain
from threadworth.colours import few_blocks, is_without_colours
from threadworth.diagrams import counted
from threadworth.errors import WorthError
from threadworth.falling import rest_of
from threadworth.growing import grown, shrunk
from threadworth.lines import is_name, number_in, words_of
from threadworth.numbers import number_text, read_number
from threadworth.powers import power
from threadworth.putting import closing, put
from threadworth.sums import read_sum, text_of_sum
from threadworth.tables import spoilt
from threadworth.texts import read_diagram, text_of
from threadworth.through import lower, middle, through, upper
from threadworth.words import diagram_of, read_word, word_text
from threadworth.wordsof import first_word

BAD = "bad"
UNKNOWN = "unknown"
REFUSED = "refused"
DONE = "ok"
EMPTY = "empty"
# What stands behind a command: a name (N), the name of a sum (L), an integer (X),
# the text of a diagram (D), any word (W), or any words (T).
FORMS = {
    "sum": "NT", "drop": "L", "show": "L", "plus": "NLL", "less": "NLL", "times": "NLL",
    "beside": "NLL", "scale": "NLW", "over": "NL", "grow": "NL", "shrink": "NL",
    "plain": "NLW", "few": "NL", "rest": "NL", "worth": "L", "at": "LD", "in": "LW",
    "lost": "LW", "dark": "L", "alike": "LLW", "decide": "LLW", "put": "DD", "closing": "D",
    "through": "D", "halves": "D", "power": "DX", "word": "WD", "run": "XT", "count": "WXX",
    "spoilt": "WXX",
}


def _read(text):
    return read_sum(text)


def _plus(one, other):
    return one + other


def _less(one, other):
    return one - other


def _times(one, other):
    return one * other


def _beside(one, other):
    return one.beside(other)


def _scaled(one, word):
    return one.scaled(read_number(one.world, word))


def _over(one):
    return one.over()


def _grown(one):
    return grown(one)


def _shrunk(one):
    return shrunk(one)


def _plain(one, family):
    return plain(one, family)


def _few(one):
    return few_blocks(one)


def _rest(one):
    return rest_of(one)


# These make the sum that a name gets.
MAKERS = {
    "sum": _read, "plus": _plus, "less": _less, "times": _times, "beside": _beside,
    "scale": _scaled, "over": _over, "grow": _grown, "shrink": _shrunk, "plain": _plain,
    "few": _few, "rest": _rest,
}


def _yes_or_no(holds):
    return "yes" if holds else "no"


def _with_loops(loops, diagram):
    return str(loops) + " " + text_of(diagram)


def _show(one):
    return text_of_sum(one)


def _worth(one):
    return number_text(one.world, one.worth())


def _at(one, diagram):
    return number_text(one.world, one.at(diagram))


def _in(one, family):
    return _yes_or_no(one.is_in(family))


def _lost(one, family):
    return _yes_or_no(is_lost(one, family))


def _dark(one):
    return _yes_or_no(is_without_colours(one))


def _alike(one, other, family):
    found = apart(one, other, family)
    return "yes" if found is None else text_of(found)


def _decide(one, other, family):
    kind, _ = decide(one, other, family)
    return kind


def _put(one, other):
    loops, made = put(one, other)
    return _with_loops(loops, made)


def _closing(diagram):
    return str(closing(diagram))


def _through(diagram):
    return str(through(diagram))


def _halves(diagram):
    return " ".join([text_of(part) for part in (upper(diagram), middle(diagram), lower(diagram))])


def _power(diagram, count):
    loops, made = power(diagram, count)
    return _with_loops(loops, made)


def _word(family, diagram):
    return word_text(diagram[0], first_word(family, diagram))


def _run(n, text):
    loops, made = diagram_of(n, read_word(n, text))
    return _with_loops(loops, made)


def _count(family, n, m):
    return str(counted(family, n, m))


def _spoilt(family, n, m):
    found = [str(x) for x, _ in spoilt(family, n, m)]
    return " ".join(found) if found else EMPTY


# These only tell something.
TELLERS = {
    "show": _show, "worth": _worth, "at": _at, "in": _in, "lost": _lost, "dark": _dark,
    "alike": _alike, "decide": _decide, "put": _put, "closing": _closing, "through": _through,
    "halves": _halves, "power": _power, "word": _word, "run": _run, "count": _count,
    "spoilt": _spoilt,
}


def _parts_of(words):
    """Return what stands behind a command, pairs of its form and its text, or None."""
    form = FORMS.get(words[0], "")
    size = form.find("T")
    told = words[1:]
    if size >= 0:
        told = told[:size] + [" ".join(told[size:])]
    if form == "" or len(told) != len(form):
        return None
    parts = list(zip(form, told))
    if not all([_is_right(kind, word) for kind, word in parts]):
        return None
    return parts


def _is_right(kind, word):
    if kind == "N" or kind == "L":
        return is_name(word)
    return kind != "X" or number_in(word) is not None


class Desk:
    """Sums by names. Sums never change, so that two desks may have the same ones."""

    def __init__(self):
        self._sums = {}

    def names(self):
        """Return the names that have a sum, in order."""
        return sorted(list(self._sums))

    def thing(self, name):
        """Return the sum of a name, or None."""
        return self._sums.get(name)

    def copied(self):
        """Return another desk with the same names and sums."""
        other = Desk()
        other._sums = {name: self._sums[name] for name in self._sums}
        return other

    def answers(self, lines):
        """Return the answers to several lines, in order."""
        return [self.answer(line) for line in lines]

    def answer(self, line):
        """Return the answer to a line, and do what it says."""
        words = words_of(line)
        parts = None if words is None else _parts_of(words)
        if parts is None:
            return BAD
        for kind, word in parts:
            if kind == "L" and word not in self._sums:
                return UNKNOWN + " " + word
        try:
            return self._answer_to(words[0], parts)
        except WorthError:
            return REFUSED

    def _answer_to(self, command, parts):
        _, first = parts[0]
        if command == "drop":
            del self._sums[first]
            return DONE
        meant = [self._meant(kind, word) for kind, word in parts]
        if command in TELLERS:
            tell = TELLERS[command]
            return tell(*meant)
        _, *rest = meant
        make = MAKERS[command]
        one = make(*rest)
        # Only now, as nothing changes where an error is raised.
        self._sums[first] = one
        return str(len(one))

    def _meant(self, kind, word):
        """Return what a word stands for."""
        if kind == "L":
            return self._sums[word]
        if kind == "X":
            return number_in(word)
        if kind == "D":
            return read_diagram(word)
        return word
