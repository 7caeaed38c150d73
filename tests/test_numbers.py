"""Points [1], [2], [3], [7]: worlds, numbers, and their texts."""

import itertools
import unittest
from fractions import Fraction

from threadworth.errors import BadNumber, Malformed, NotNumber, NotWorld
from threadworth.numbers import (
    check_number, check_world, is_number, is_world, loop_worth, minus, number, number_text,
    over, plus, power, read_number, times,
)

PRIMES = (2, 3, 5, 7, 11, 13, 17, 19, 23, 29, 31)
FRACTIONS = (0, 2)
LONG = 10 ** 6000 + 7


def all_functions(world, x=(1, 1), y=(1, 1)):
    """A call of each function that takes a world, by its name."""
    return {
        "is_number": lambda: is_number(world, x),
        "check_number": lambda: check_number(world, x),
        "plus": lambda: plus(world, x, y),
        "minus": lambda: minus(world, x, y),
        "times": lambda: times(world, x, y),
        "over": lambda: over(world, x, y),
        "power": lambda: power(world, x, 2),
        "number_text": lambda: number_text(world, x),
        "number": lambda: number(world, 1, 1),
        "loop_worth": lambda: loop_worth(world),
        "read_number": lambda: read_number(world, "1"),
        "check_world": lambda: check_world(world),
    }


class WorldTest(unittest.TestCase):

    def test_worlds_of_fractions_have_d_from_minus_20_to_20(self):
        for d in range(-25, 26):
            self.assertIs(is_world((0, d)), -20 <= d <= 20, d)
        self.assertIs(is_world((0, 10 ** 50)), False)

    def test_worlds_of_rests(self):
        for p in range(-40, 60):
            if p == 0:
                continue
            for d in range(-3, 45):
                self.assertIs(is_world((p, d)), p in PRIMES and 0 <= d < p, (p, d))

    def test_each_prime_at_its_bounds(self):
        for p in PRIMES:
            self.assertIs(is_world((p, 0)), True)
            self.assertIs(is_world((p, p - 1)), True)
            self.assertIs(is_world((p, p)), False)
            self.assertIs(is_world((p, -1)), False)

    def test_primes_beyond_the_list_are_none(self):
        for p in (-2, 1, 4, 9, 15, 27, 33, 37, 41, 2 ** 61 - 1):
            self.assertIs(is_world((p, 0)), False)

    def test_check_world(self):
        self.assertIsNone(check_world((0, -20)))
        self.assertIsNone(check_world((31, 30)))
        for world in ((0, 21), (0, -21), (31, 31), (4, 1)):
            with self.assertRaises(NotWorld):
                check_world(world)

    def test_each_function_raises_not_world_first(self):
        for world in ((0, 21), (0, -21), (5, 5), (37, 0), (-3, 0)):
            for name, call in all_functions(world, (2, 4), (1, 0)).items():
                with self.subTest(name=name, world=world):
                    self.assertRaises(NotWorld, call)
        self.assertRaises(NotWorld, number, (1, 0), 1, 0)
        self.assertRaises(NotWorld, over, (0, 21), (1, 1), (0, 1))
        self.assertRaises(NotWorld, power, (0, 21), (1, 1), 201)
        self.assertRaises(NotWorld, read_number, (0, 21), "x")

    def test_loop_worth_is_the_number_d(self):
        self.assertEqual(loop_worth((0, -20)), (-20, 1))
        self.assertEqual(loop_worth((0, 0)), (0, 1))
        self.assertEqual(loop_worth((7, 6)), (6, 1))


class NumberTest(unittest.TestCase):

    def test_fractions_are_in_lowest_terms(self):
        for a, b in itertools.product(range(-12, 13), range(-6, 7)):
            lowest = b >= 1 and (Fraction(a, b).numerator, Fraction(a, b).denominator) == (a, b)
            self.assertIs(is_number(FRACTIONS, (a, b)), lowest, (a, b))

    def test_zero_has_the_denominator_1(self):
        self.assertIs(is_number(FRACTIONS, (0, 1)), True)
        self.assertIs(is_number(FRACTIONS, (0, 2)), False)
        self.assertIs(is_number(FRACTIONS, (0, 0)), False)

    def test_rests_are_from_0_to_p_less_1(self):
        for p in PRIMES:
            for a, b in itertools.product(range(-3, p + 4), (-1, 0, 1, 2)):
                self.assertIs(is_number((p, 0), (a, b)), b == 1 and 0 <= a < p)

    def test_check_number(self):
        self.assertIsNone(check_number(FRACTIONS, (-3, 4)))
        self.assertIsNone(check_number((5, 2), (4, 1)))
        for world, x in ((FRACTIONS, (2, 4)), (FRACTIONS, (1, -2)), ((5, 2), (5, 1))):
            with self.assertRaises(NotNumber):
                check_number(world, x)

    def test_numbers_of_fractions(self):
        for a, b in itertools.product(range(-12, 13), range(-12, 13)):
            if b:
                told = Fraction(a, b)
                self.assertEqual(number(FRACTIONS, a, b), (told.numerator, told.denominator))

    def test_numbers_of_rests(self):
        for p in PRIMES:
            for a, b in itertools.product(range(-p - 1, 2 * p + 1), repeat=2):
                if b % p:
                    found, one = number((p, 0), a, b)
                    self.assertEqual(one, 1)
                    self.assertTrue(0 <= found < p)
                    self.assertEqual((found * b - a) % p, 0)

    def test_the_denominator_is_1_unless_told(self):
        self.assertEqual(number(FRACTIONS, 6), (6, 1))
        self.assertEqual(number((5, 1), -1), (4, 1))
        self.assertEqual(number(FRACTIONS, 6, b=-4), (-3, 2))

    def test_there_is_none_for_some_denominators(self):
        self.assertRaises(BadNumber, number, FRACTIONS, 1, 0)
        self.assertRaises(BadNumber, number, FRACTIONS, 0, 0)
        for p in PRIMES:
            for b in (0, p, -p, 7 * p, p ** 40):
                self.assertRaises(BadNumber, number, (p, 1), 1, b)
                self.assertRaises(BadNumber, number, (p, 1), 0, b)

    def test_integers_of_any_size(self):
        self.assertEqual(number(FRACTIONS, 2 * LONG, -4 * LONG), (-1, 2))
        self.assertEqual(number((31, 1), LONG * 31 + 5, LONG * 31 + 1), (5, 1))
        self.assertEqual(times(FRACTIONS, (LONG, 1), (1, LONG)), (1, 1))

    def test_example(self):
        self.assertEqual(number((5, 2), 1, 3), (2, 1))


class ReckoningTest(unittest.TestCase):

    def test_fractions(self):
        told = sorted({Fraction(a, b) for a in range(-4, 5) for b in range(1, 5)})
        for x, y in itertools.product(told, repeat=2):
            pair = (x.numerator, x.denominator), (y.numerator, y.denominator)
            for function, due in ((plus, x + y), (minus, x - y), (times, x * y)):
                self.assertEqual(function(FRACTIONS, *pair), (due.numerator, due.denominator))
            if y:
                due = x / y
                self.assertEqual(over(FRACTIONS, *pair), (due.numerator, due.denominator))

    def test_rests(self):
        for p in PRIMES:
            for x, y in itertools.product(range(p), repeat=2):
                pair = (x, 1), (y, 1)
                self.assertEqual(plus((p, 0), *pair), ((x + y) % p, 1))
                self.assertEqual(minus((p, 0), *pair), ((x - y) % p, 1))
                self.assertEqual(times((p, 0), *pair), (x * y % p, 1))
                if y:
                    quotient = over((p, 0), *pair)
                    self.assertEqual(times((p, 0), quotient, (y, 1)), (x, 1))
                    self.assertTrue(0 <= quotient[0] < p)

    def test_nothing_is_divided_by_0(self):
        for world in (FRACTIONS, (2, 1), (31, 0)):
            self.assertRaises(BadNumber, over, world, (1, 1), (0, 1))
            self.assertRaises(BadNumber, over, world, (0, 1), (0, 1))

    def test_wrong_numbers_in_either_place(self):
        for function in (plus, minus, times, over):
            self.assertRaises(NotNumber, function, FRACTIONS, (2, 2), (1, 1))
            self.assertRaises(NotNumber, function, FRACTIONS, (1, 1), (2, 2))
            self.assertRaises(NotNumber, function, (3, 0), (3, 1), (1, 1))
            self.assertRaises(NotNumber, function, (3, 0), (1, 1), (1, 2))
        # The number is looked at ahead of the division by 0 and of the count.
        self.assertRaises(NotNumber, over, FRACTIONS, (2, 2), (0, 1))
        self.assertRaises(NotNumber, over, FRACTIONS, (2, 2), (0, 2))
        self.assertRaises(NotNumber, power, FRACTIONS, (2, 2), 201)
        self.assertRaises(NotNumber, number_text, FRACTIONS, (1, 0))

    def test_power(self):
        self.assertEqual(power(FRACTIONS, (-2, 3), 3), (-8, 27))
        self.assertEqual(power(FRACTIONS, (-2, 3), 1), (-2, 3))
        self.assertEqual(power((7, 0), (3, 1), 5), (5, 1))
        for world in (FRACTIONS, (2, 0), (13, 4)):
            self.assertEqual(power(world, (0, 1), 0), (1, 1))
            self.assertEqual(power(world, (0, 1), 1), (0, 1))
            self.assertEqual(power(world, (0, 1), 200), (0, 1))
        self.assertEqual(power(FRACTIONS, (2, 3), 200), (2 ** 200, 3 ** 200))
        self.assertEqual(power((31, 0), (3, 1), 200), (pow(3, 200, 31), 1))

    def test_power_is_bounded(self):
        for count in (-1, 201, 10 ** 50, -10 ** 50, LONG):
            self.assertRaises(BadNumber, power, FRACTIONS, (1, 1), count)
            self.assertRaises(BadNumber, power, (3, 1), (1, 1), count)


class TextTest(unittest.TestCase):

    def assert_malformed(self, world, text):
        with self.assertRaises(Malformed) as caught:
            read_number(world, text)
        self.assertEqual(caught.exception.at, 0)

    def test_texts(self):
        for x, text in (
            ((0, 1), "0"), ((5, 1), "5"), ((-5, 1), "-5"), ((1, 2), "1/2"), ((-10, 7), "-10/7"),
        ):
            self.assertEqual(number_text(FRACTIONS, x), text)
            self.assertEqual(read_number(FRACTIONS, text), x)

    def test_texts_of_rests(self):
        for p in PRIMES:
            for a in range(p):
                self.assertEqual(number_text((p, 0), (a, 1)), str(a))
                self.assertEqual(read_number((p, 0), str(a)), (a, 1))
            self.assert_malformed((p, 0), str(p))
            self.assert_malformed((p, 0), "-1")
            self.assert_malformed((p, 0), "1/2")

    def test_other_texts(self):
        for text in (
            "", "-", "/", "1/", "/2", "-/2", "-0", "00", "01", "-01", "1/02", "01/2", "+1",
            "+0", "1/+2", " 1", "1 ", "1 /2", "1/ 2", "- 1", "1\n", "\t1", "1_0", "2/4", "3/1",
            "0/2", "0/1", "1/0", "0/0", "1/-2", "-1/-2", "1/2/3", "1//2", "--1", "1-", "x",
            "1.0", "1e3", "0x1", "\u00b2", "\u0661", "1/\u0662",
        ):
            with self.subTest(text=text):
                self.assert_malformed(FRACTIONS, text)
                self.assert_malformed((5, 1), text)

    def test_integers_of_60_and_61_figures(self):
        most = int("9" * 60)
        self.assertEqual(read_number(FRACTIONS, "9" * 60), (most, 1))
        self.assertEqual(read_number(FRACTIONS, "-" + "9" * 60), (-most, 1))
        self.assertEqual(read_number(FRACTIONS, "1/" + "9" * 60), (1, most))
        both = "-1" + "0" * 59 + "/" + "9" * 60
        self.assertEqual(read_number(FRACTIONS, both), (-10 ** 59, most))
        self.assert_malformed(FRACTIONS, "1" + "0" * 60)
        self.assert_malformed(FRACTIONS, "-1" + "0" * 60)
        self.assert_malformed(FRACTIONS, "1/1" + "0" * 60)
        self.assert_malformed(FRACTIONS, "1" * 61 + "/2")
        self.assert_malformed(FRACTIONS, "9" * 6000)

    def test_texts_of_long_numbers(self):
        for figures in (59, 60, 61, 119, 120, 121, 180):
            for a in (10 ** figures, 10 ** figures - 1, 10 ** figures + 1):
                self.assertEqual(number_text(FRACTIONS, (a, 1)), str(a))
                self.assertEqual(number_text(FRACTIONS, (-a, 1)), str(-a))
                self.assertEqual(number_text(FRACTIONS, (1, a)), "1/" + str(a))

    def test_texts_of_numbers_with_thousands_of_figures(self):
        self.assertEqual(number_text(FRACTIONS, (LONG, 1)), "1" + "0" * 5999 + "7")
        self.assertEqual(number_text(FRACTIONS, (-1, LONG)), "-1/1" + "0" * 5999 + "7")
