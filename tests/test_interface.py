"""The names, arguments and defaults that the interface lists."""

import importlib
import inspect
import unittest

SIGNATURES = {
    "numbers": [
        "is_world(world)", "check_world(world)", "is_number(world, x)",
        "check_number(world, x)", "number(world, a, b=1)", "plus(world, x, y)",
        "minus(world, x, y)", "times(world, x, y)", "over(world, x, y)",
        "power(world, x, count)", "loop_worth(world)", "number_text(world, x)",
        "read_number(world, text)",
    ],
    "polys": [
        "is_poly(poly)", "check_poly(poly)", "added(one, other)", "subtracted(one, other)",
        "multiplied_polys(one, other)", "divided(one, other)", "value_at(poly, x)",
        "value(world, poly)", "roots(poly, *, most=1000)", "falling(count)", "rising(count)",
        "power_of_d(count)", "by_falling(poly)",
    ],
    "diagrams": [
        "is_diagram(diagram)", "check_diagram(diagram)", "check_family(family)",
        "labels(diagram)", "from_labels(n, m, marks)", "is_in(family, diagram)",
        "is_before(one, other)", "counted(family, n, m)", "listed(family, n, m)",
        "index_of(family, diagram)",
    ],
    "basics": ["unit(n)", "hook(n, i)", "swap(n, i)", "bridge(n, i)", "cut(n, i)"],
    "texts": ["text_of(diagram)", "read_diagram(text)"],
    "putting": [
        "put(one, other)", "beside(one, other)", "over(diagram)",
        "moved(diagram, above, below)", "lowered(diagram)", "raised(diagram)",
        "closing(diagram)", "closed_end(diagram, count)",
    ],
    "contexts": [
        "fits(u, v, left, right)", "outside(u, v, left, right)",
        "worth_in(diagram, u, v, left, right)",
    ],
}


class InterfaceTest(unittest.TestCase):

    def test_functions_stand_in_their_files_with_their_arguments(self):
        for name, signatures in SIGNATURES.items():
            module = importlib.import_module("threadworth." + name)
            for told in signatures:
                with self.subTest(module=name, told=told):
                    function = getattr(module, told.partition("(")[0])
                    self.assertTrue(inspect.isfunction(function))
                    self.assertEqual(function.__module__, "threadworth." + name)
                    self.assertEqual(function.__name__ + str(inspect.signature(function)), told)
