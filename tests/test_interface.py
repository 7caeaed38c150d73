"""The names, arguments and defaults that the interface lists."""

import importlib
import inspect
import unittest

SIGNATURES = {
    "numbers": [
        "is_world(world)", "check_world(world)", "is_number(world, x)",
        "check_number(world, x)", "number(world, a, b=1)", "plus(world, x, y)",
        "minus(world, x, y)", "times(world, x, y)", "over(world, x, y)",
        "power(world, x, count)", "loop_worth(world)", "number_text(world, x)",
        "read_number(world, text)",
    ],
    "polys": [
        "is_poly(poly)", "check_poly(poly)", "added(one, other)", "subtracted(one, other)",
        "multiplied_polys(one, other)", "divided(one, other)", "value_at(poly, x)",
        "value(world, poly)", "roots(poly, *, most=1000)", "falling(count)", "rising(count)",
        "power_of_d(count)", "by_falling(poly)",
    ],
    "diagrams": [
        "is_diagram(diagram)", "check_diagram(diagram)", "check_family(family)",
        "labels(diagram)", "from_labels(n, m, marks)", "is_in(family, diagram)",
        "is_before(one, other)", "counted(family, n, m)", "listed(family, n, m)",
        "index_of(family, diagram)",
    ],
    "basics": ["unit(n)", "hook(n, i)", "swap(n, i)", "bridge(n, i)", "cut(n, i)"],
    "texts": ["text_of(diagram)", "read_diagram(text)"],
    "putting": [
        "put(one, other)", "beside(one, other)", "over(diagram)",
        "moved(diagram, above, below)", "lowered(diagram)", "raised(diagram)",
        "closing(diagram)", "closed_end(diagram, count)",
    ],
    "contexts": [
        "fits(u, v, left, right)", "outside(u, v, left, right)",
        "worth_in(diagram, u, v, left, right)",
    ],
    "words": [
        "letters(family, n)", "is_word(n, word)", "check_word(n, word)", "diagram_of(n, word)",
        "is_word_of(family, n, word)", "word_text(n, word)", "read_word(n, text)",
    ],
    "moves": [
        "rules()", "stepped(n, word, step)", "walked(n, word, chain)", "undone(n, word, chain)",
        "steps_of(n, word)",
    ],
    "wordsof": ["first_word(family, diagram)", "lengths(family, n)"],
    "sums": [
        "unit_sum(world, n)", "zero_sum(world, n, m)", "text_of_sum(one)", "read_sum(text)",
    ],
    "linear": [
        "is_matrix(world, matrix)", "echelon(world, matrix)", "rank(world, matrix)",
        "kernel(world, matrix)", "solution(world, matrix, right)", "clash(world, matrix, right)",
        "product(world, one, other)", "determinant(world, matrix)", "poly_determinant(matrix)",
    ],
    "tables": [
        "joined(one, other)", "closings(family, n, m)", "worths(world, family, n, m)",
        "determinant(family, n, m)", "spoilt(family, n, m)", "spoilt_rests(family, n, m, p)",
        "is_spoilt(world, family, n, m)",
    ],
    "alike": [
        "worths_of(one, family)", "is_lost(one, family)", "are_alike(one, other, family)",
        "apart(one, other, family)", "decide(one, other, family)",
        "is_answer(one, other, family, answer)", "lost_basis(world, family, n, m)",
        "kept(world, family, n, m)", "plain(one, family)",
        "worth_in_context(one, u, v, left, right)",
    ],
    "colours": [
        "colour_table(d, diagram)", "exact_table(d, diagram)", "sum_table(one)",
        "is_without_colours(one)", "matched(one, other)", "is_blind(d, n, m, entries)",
        "sum_of(d, n, m, entries)", "few_blocks(one)", "seen(d, family, n, m)",
    ],
    "falling": [
        "arrangement(diagram)", "thread(places)", "sign(places)", "longest_fall(places)",
        "is_kept(world, places)", "kept(world, n)", "kept_number(world, n)",
        "exchanges(places, indexes)", "lost_exchange(world, places, indexes)", "rest_of(one)",
        "are_alike_threads(one, other)",
    ],
    "through": [
        "through(diagram)", "upper(diagram)", "middle(diagram)", "lower(diagram)",
        "by_through(family, n, m)", "led(family, one, other)",
    ],
    "powers": [
        "power(diagram, count)", "start_and_round(diagram)", "is_square(diagram)",
        "squares(family, n)",
    ],
    "growing": [
        "grown(one)", "shrunk(one)", "hooked(one, other)", "average(world, n)",
        "alternating(world, n)", "average_worth(world, n)", "alternating_worth(world, n)",
        "averaged(one)", "alternated(one)", "is_own_square(one)", "hook_square(world, n, i)",
    ],
    "certificates": [
        "worths_told(world, family, n, m, terms)", "is_told_lost(world, family, n, m, terms)",
        "shown(world, family, n, m, terms, others, answer)", "has_no_colours(d, n, m, terms)",
        "diagram_told(n, word)", "is_chain(n, one, other, chain, taken)",
        "is_told_solution(world, matrix, right, vector)",
        "is_told_clash(world, matrix, right, numbers)", "is_told_determinant(matrix, poly)",
    ],
    "lines": ["words_of(line)", "is_name(word)", "number_in(word)"],
    "journal": ["attempt(journal, lines, *, keep=False)", "resume(text)"],
}
CLASSES = {
    "sums": {
        "Sum": [
            "__init__(self, world, n, m, terms)", "terms(self)", "at(self, diagram)",
            "__add__(self, other)", "__sub__(self, other)", "__neg__(self)",
            "__mul__(self, other)", "__eq__(self, other)", "__len__(self)", "__bool__(self)",
            "scaled(self, number)", "beside(self, other)", "over(self)", "worth(self)",
            "is_in(self, family)",
        ],
    },
    "desk": {
        "Desk": [
            "__init__(self)", "answer(self, line)", "answers(self, lines)", "names(self)",
            "thing(self, name)",
        ],
    },
    "journal": {
        "Journal": [
            "__init__(self)", "answer(self, line)", "record(self)", "lines(self)", "keep(self)",
            "__enter__(self)", "__exit__(self, kind, value, trace)",
        ],
    },
}


class InterfaceTest(unittest.TestCase):

    def test_functions_stand_in_their_files_with_their_arguments(self):
        for name, signatures in SIGNATURES.items():
            module = importlib.import_module("threadworth." + name)
            for told in signatures:
                with self.subTest(module=name, told=told):
                    function = getattr(module, told.partition("(")[0])
                    self.assertTrue(inspect.isfunction(function))
                    self.assertEqual(function.__module__, "threadworth." + name)
                    self.assertEqual(function.__name__ + str(inspect.signature(function)), told)

    def test_classes_define_their_methods_themselves(self):
        for name, classes in CLASSES.items():
            module = importlib.import_module("threadworth." + name)
            for title, methods in classes.items():
                kind = getattr(module, title)
                self.assertTrue(inspect.isclass(kind))
                self.assertEqual(kind.__module__, "threadworth." + name)
                for told in methods:
                    with self.subTest(kind=title, told=told):
                        method = vars(kind)[told.partition("(")[0]]
                        self.assertEqual(method.__name__ + str(inspect.signature(method)), told)
