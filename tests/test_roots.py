"""[16]: roots, and products to which one is added."""

import unittest
from fractions import Fraction
from math import isqrt

from nearestheld.basic import add, times
from nearestheld.forms import is_outcome
from nearestheld.roots import fused, root
from reference import (
    LARGE_FORMATS, SMALL_FORMATS, WAYS, numbers_of, outcome, outcome_in_large, some_numbers, some_of,
    values_of, worth_of,
)

NAN = ("nan",)
KEPT, MADE = (NAN, ()), (NAN, ("invalid",))


class Roots(unittest.TestCase):
    def near_root(self, x, places):
        """The root of a Fraction if it is one, otherwise one that is nearer to it than any NUMBER."""
        n, d = x.numerator, x.denominator
        if isqrt(n) ** 2 == n and isqrt(d) ** 2 == d:
            return Fraction(isqrt(n), isqrt(d))
        scale = 10 ** places
        return Fraction(2 * isqrt(n * scale ** 2 // d) + 1, 2 * scale)

    def test_all_values_of_small_formats(self):
        for form in SMALL_FORMATS:
            for value in values_of(form):
                for way in WAYS:
                    told = root(form, way, value)
                    self.assertEqual(told, self.expected(form, way, value), (form, way, value))
                    self.assertIs(is_outcome(form, told), True)

    def expected(self, form, way, value):
        if value == NAN:
            return KEPT
        if value == ("inf", 0) or (value[0] == "num" and value[2] == 0):
            return (value, ())
        if value[1] == 1:
            return MADE
        return outcome(form, way, self.near_root(worth_of(form, value), 40), 0)

    def test_large_formats(self):
        for form in LARGE_FORMATS:
            for number in some_numbers(form, 40, 2):
                number = ("num", 0) + number[2:]
                near = self.near_root(worth_of(form, number), 3000)
                for way in WAYS:
                    self.assertEqual(root(form, way, number), outcome_in_large(form, way, near, 0), number)

    def test_squares_are_exact(self):
        form = (36, 120, -1200, 1200)
        full = 36 ** 119
        self.assertEqual(root(form, "up", ("num", 0, full, 1)), (("num", 0, full, -59), ()))
        self.assertEqual(root(form, "down", ("num", 0, 49 * full // 36, -119)), (("num", 0, 7 * full // 6, -119), ()))


class Fused(unittest.TestCase):
    def check(self, form, x, y, z, told_by):
        exact = worth_of(form, x) * worth_of(form, y) + worth_of(form, z)
        for way in WAYS:
            s = x[1] ^ y[1]
            if s != z[1]:
                s = 1 if way == "down" else 0
            self.assertEqual(fused(form, way, x, y, z), told_by(form, way, exact, s), (form, way, x, y, z))

    def test_triples_in_small_formats(self):
        for form in SMALL_FORMATS:
            numbers = some_of(numbers_of(form), 14)
            for x in numbers:
                for y in numbers:
                    for z in numbers:
                        self.check(form, x, y, z, outcome)

    def test_triples_in_large_formats(self):
        for form in LARGE_FORMATS:
            numbers = some_numbers(form, 60, 3)
            for x, y, z in zip(numbers, numbers[1:], numbers[2:]):
                self.check(form, x, y, z, outcome_in_large)

    def test_what_nearly_cancels_and_what_cancels_out(self):
        for form in LARGE_FORMATS:
            base, digits, low, high = form
            c, half = base ** digits - 1, -digits // 2
            for s in (0, 1):
                x, y = ("num", s, c, half), ("num", 0, c, half)
                # c * c = (base ** digits - 2) * base ** digits + 1: the greatest NUMBER below it lacks 1.
                near = ("num", 1 - s, c - 1, 2 * half + digits)
                self.check(form, x, y, near, outcome_in_large)
                self.assertEqual(fused(form, "even", x, y, near), (("num", s, base ** (digits - 1), 2 * half - digits + 1), ()))
                one = ("num", 0, base ** (digits - 1), 1 - digits)
                for way in WAYS:
                    lost = ("num", 1 if way == "down" else 0, 0, low)
                    self.assertEqual(fused(form, way, x, one, ("num", 1 - s, c, half)), (lost, ()))
                    self.assertEqual(fused(form, way, x, one, x)[0][1], s)

    def test_far_apart(self):
        for form in LARGE_FORMATS:
            base, digits, low, high = form
            top, least = ("num", 0, base ** digits - 1, high), ("num", 0, 1, low)
            self.check(form, least, least, ("num", 1) + top[2:], outcome_in_large)
            self.check(form, top, top, ("num", 1) + top[2:], outcome_in_large)
            self.check(form, least, ("num", 1, 1, low), least, outcome_in_large)
            self.check(form, top, least, ("num", 1) + top[2:], outcome_in_large)

    def test_specials(self):
        for form in ((2, 2, -1, 0), (10, 3, -3, 3)):
            some = [("num", s, c, form[2]) for s in (0, 1) for c in (0, 1)] + [("inf", 0), ("inf", 1), NAN]
            for x in some:
                for y in some:
                    for z in some:
                        for way in WAYS:
                            self.check_special(form, way, x, y, z)

    def check_special(self, form, way, x, y, z):
        told = fused(form, way, x, y, z)
        if NAN in (x, y, z):
            self.assertEqual(told, KEPT)
        elif "inf" in (x[0], y[0]):
            product = times(form, way, x, y)
            self.assertEqual(told, MADE if product == MADE else add(form, way, product[0], z), (x, y, z))
        elif z[0] == "inf":
            self.assertEqual(told, (z, ()))
        else:
            self.check(form, x, y, z, outcome_in_large)

    def test_an_inf_by_a_zero_beside_a_nan(self):
        form = (10, 3, -3, 3)
        zero, inf = ("num", 0, 0, -3), ("inf", 0)
        self.assertEqual(fused(form, "even", inf, zero, NAN), KEPT)
        self.assertEqual(fused(form, "even", zero, inf, ("inf", 1)), MADE)
        self.assertEqual(fused(form, "even", inf, ("num", 1, 100, -2), inf), MADE)
        self.assertEqual(fused(form, "even", inf, ("num", 1, 100, -2), ("inf", 1)), (("inf", 1), ()))
        self.assertEqual(fused(form, "even", zero, zero, inf), (inf, ()))


if __name__ == "__main__":
    unittest.main()
