"""Point 4.7, the row prim: what the operators make of two values."""

import random
import unittest

from reaimed.prims import prim
from values import SIGNS, kinds_in

MOST = 10 ** 15
TRUE = ("true",)
FALSE = ("false",)
NUMBER = ("error", "number")
DIVISION = ("error", "division")
OVERFLOW = ("error", "overflow")
OTHERS = (TRUE, FALSE, ("nothing",), ("ref", 0), ("ref", 1), ("method", 1), ("block", 1))
ARITHMETIC = ("+", "-", "*", "div", "mod")


def num(number):
    return ("num", number)


class TestPrim(unittest.TestCase):
    def check(self, sign, first, second, result):
        found = prim(sign, first, second)
        self.assertEqual(found, result, (sign, first, second))
        self.assertLessEqual(kinds_in(found), {tuple, str, int})

    def numbers(self, sign, *rows):
        for a, b, result in rows:
            self.check(sign, num(a), num(b), num(result))

    def test_interface(self):
        self.assertEqual(prim.__module__, "reaimed.prims")
        self.assertEqual(prim(sign="-", first=num(5), second=num(3)), num(2))

    def test_sums_differences_and_products(self):
        self.numbers("+", (0, 0, 0), (1, 2, 3), (1, -2, -1), (-1, -2, -3))
        self.numbers("-", (0, 0, 0), (1, 2, -1), (2, 1, 1), (-1, -2, 1))
        self.numbers("*", (0, 5, 0), (3, 4, 12), (-3, 4, -12), (3, -4, -12), (-3, -4, 12))

    def test_division_rounds_down(self):
        self.numbers("div", (7, 2, 3), (-7, 2, -4), (7, -2, -4), (-7, -2, 3), (6, 3, 2), (-6, 3, -2), (0, 5, 0),
                     (0, -5, 0), (1, 3, 0), (-1, 3, -1), (1, -3, -1))

    def test_the_rest_belongs_to_the_division(self):
        self.numbers("mod", (7, 2, 1), (-7, 2, 1), (7, -2, -1), (-7, -2, -1), (6, 3, 0), (-6, 3, 0), (1, 3, 1),
                     (-1, 3, 2), (1, -3, -2), (0, 5, 0))
        for a in range(-9, 10):
            for b in (-4, -3, -1, 1, 2, 5):
                quotient = prim("div", num(a), num(b))[1]
                self.check("mod", num(a), num(b), num(a - b * quotient))

    def test_division_by_zero(self):
        for sign in ("div", "mod"):
            for a in (0, 1, -1, MOST):
                self.check(sign, num(a), num(0), DIVISION)
        self.check("*", num(1), num(0), num(0))

    def test_comparisons(self):
        for sign, less, equal, greater in (("<", TRUE, FALSE, FALSE), ("<=", TRUE, TRUE, FALSE), ("==", FALSE, TRUE, FALSE)):
            self.check(sign, num(1), num(2), less)
            self.check(sign, num(-2), num(1), less)
            self.check(sign, num(2), num(2), equal)
            self.check(sign, num(0), num(0), equal)
            self.check(sign, num(2), num(1), greater)

    def test_equality_of_any_two_values(self):
        values = OTHERS + (num(0), num(1), num(2))
        for at, first in enumerate(values):
            for other, second in enumerate(values):
                self.check("==", first, second, TRUE if at == other else FALSE)
        self.check("==", ("ref", int("12345")), ("ref", int("12345")), TRUE)

    def test_values_that_are_no_numbers(self):
        for sign in SIGNS:
            if sign != "==":
                for other in OTHERS:
                    for pair in ((other, num(1)), (num(1), other), (other, other), (other, num(0)), (num(MOST), other)):
                        self.check(sign, *pair, NUMBER)

    def test_the_largest_results(self):
        self.numbers("+", (MOST, 0, MOST), (MOST - 1, 1, MOST), (-MOST, 0, -MOST), (1 - MOST, -1, -MOST))
        self.numbers("-", (0, MOST, -MOST), (MOST, MOST, 0), (-MOST, 0, -MOST), (MOST - 1, -1, MOST))
        self.numbers("*", (10 ** 12, 1000, MOST), (10 ** 12, -1000, -MOST), (MOST, 1, MOST), (MOST, -1, -MOST))
        self.numbers("div", (MOST, 1, MOST), (MOST, -1, -MOST), (-MOST, -1, MOST))
        self.numbers("mod", (MOST, MOST, 0), (-1, MOST, MOST - 1), (MOST, -MOST, 0))

    def test_overflow(self):
        for a, b in ((MOST, 1), (1, MOST), (MOST, MOST), (-MOST, -1), (-1, -MOST)):
            self.check("+", num(a), num(b), OVERFLOW)
            self.check("-", num(a), num(-b), OVERFLOW)
        for a, b in ((10 ** 12, 1001), (-MOST, 2), (MOST, -2), (MOST, MOST), (10 ** 12 + 1, 1000)):
            self.check("*", num(a), num(b), OVERFLOW)
        # Comparisons have no results that could be too large.
        self.check("<", num(-MOST), num(MOST), TRUE)
        self.check("<=", num(MOST), num(-MOST), FALSE)

    def test_by_chance(self):
        chance = random.Random(4)
        for _ in range(2000):
            a, b = [chance.choice((-1, 1)) * chance.randrange(10 ** chance.randrange(1, 16)) for _ in range(2)]
            for sign, made in (("+", a + b), ("-", a - b), ("*", a * b)):
                self.check(sign, num(a), num(b), num(made) if -MOST <= made <= MOST else OVERFLOW)
            if b != 0:
                quotient = prim("div", num(a), num(b))[1]
                rest = prim("mod", num(a), num(b))[1]
                self.assertEqual(quotient * b + rest, a)
                self.assertTrue(0 <= rest < b or b < rest <= 0)


if __name__ == "__main__":
    unittest.main()
