"""[17]: rests of quotients, and whole numbers."""

import unittest
from fractions import Fraction

from nearestheld.forms import is_outcome
from nearestheld.rests import left_over, rest, whole
from reference import (
    LARGE_FORMATS, SMALL_FORMATS, WAYS, numbers_of, outcome, outcome_in_large, rounded_integer, some_numbers,
    some_of, worth_of,
)

NAN = ("nan",)
KEPT, MADE = (NAN, ()), (NAN, ("invalid",))


class Rests(unittest.TestCase):
    def check(self, form, x, y):
        one, other = worth_of(form, x), worth_of(form, y)
        for told, n, most in (
            (rest(form, x, y), rounded_integer("even", one / other), abs(other) / 2),
            (left_over(form, x, y), rounded_integer("zero", one / other), abs(other)),
        ):
            left = one - n * other
            value, flags = told
            self.assertIs(is_outcome(form, told), True)
            self.assertEqual((value[0], flags), ("num", ()))
            self.assertEqual(worth_of(form, value), left, (form, x, y))
            self.assertLessEqual(abs(left), most)
            if left == 0:
                self.assertEqual(value, ("num", x[1], 0, form[2]))
        self.assertLess(abs(worth_of(form, left_over(form, x, y)[0])), abs(other))

    def test_pairs_in_small_formats(self):
        for form in SMALL_FORMATS:
            numbers = some_of(numbers_of(form), 60)
            for x in numbers:
                for y in numbers:
                    if y[2] != 0:
                        self.check(form, x, y)

    def test_pairs_in_large_formats(self):
        for form in LARGE_FORMATS:
            numbers = [number for number in some_numbers(form, 90, 4) if number[2] != 0]
            top, least = form[0] ** form[1] - 1, ("num", 0, 7, form[2])
            numbers += [("num", 1, top, form[3]), least, ("num", 0, top, form[3]), ("num", 1, 1, form[2])]
            for x, y in zip(numbers, numbers[1:]):
                self.check(form, x, y)
                self.check(form, y, x)
                self.check(form, x, x)

    def test_quotients_at_halves(self):
        form = (10, 3, -3, 3)
        for s in (0, 1):
            for other in (0, 1):
                two = ("num", other, 200, -2)
                for c, nearest, toward in ((100, 100, 100), (300, -100, 100), (500, 100, 100), (700, -100, 100)):
                    x = ("num", s, c, -2)
                    expected = ("num", s if nearest > 0 else 1 - s, 100, -2)
                    self.assertEqual(rest(form, x, two), (expected, ()))
                    self.assertEqual(left_over(form, x, two), (("num", s, toward, -2), ()))
                    self.check(form, x, two)

    def test_specials(self):
        for form in SMALL_FORMATS[:2] + LARGE_FORMATS[:1]:
            zeros = [("num", s, 0, form[2]) for s in (0, 1)]
            infs, one = [("inf", 0), ("inf", 1)], ("num", 1, 1, form[2])
            for told in (rest, left_over):
                for value in zeros + infs + [one, NAN]:
                    self.assertEqual(told(form, NAN, value), KEPT)
                    self.assertEqual(told(form, value, NAN), KEPT)
                for value in zeros + infs + [one]:
                    for inf in infs:
                        self.assertEqual(told(form, inf, value), MADE)
                    for zero in zeros:
                        self.assertEqual(told(form, value, zero), MADE)
                for value in zeros + [one]:
                    for inf in infs:
                        self.assertEqual(told(form, value, inf), (value, ()))
                for zero in zeros:
                    self.assertEqual(told(form, zero, one), (zero, ()))


class Whole(unittest.TestCase):
    def expected(self, form, way, x, told_by):
        n = rounded_integer(way, worth_of(form, x))
        value, flags = told_by(form, way, Fraction(n), x[1])
        if n != worth_of(form, x):
            flags = tuple(sorted(set(flags + ("inexact",))))
        return (value, flags)

    def test_all_numbers_of_small_formats(self):
        for form in SMALL_FORMATS + ((2, 4, -3, 0), (10, 2, -1, -1), (10, 3, -4, -2), (6, 2, -2, -1)):
            for x in numbers_of(form):
                for way in WAYS:
                    told = whole(form, way, x)
                    self.assertEqual(told, self.expected(form, way, x, outcome), (form, way, x))
                    self.assertIs(is_outcome(form, told), True)

    def test_numbers_of_large_formats(self):
        for form in LARGE_FORMATS:
            for x in some_numbers(form, 100, 5):
                for way in WAYS:
                    self.assertEqual(whole(form, way, x), self.expected(form, way, x, outcome_in_large), (form, way, x))

    def test_halves(self):
        form = (10, 3, -3, 3)
        for c, expected in ((50, (0, 1, 1, 0, 0)), (150, (2, 2, 2, 1, 1)), (250, (2, 3, 3, 2, 2)), (350, (4, 4, 4, 3, 3))):
            x = ("num", 0, c, -2) if c >= 100 else ("num", 0, c * 10, -3)
            for way, n in zip(WAYS, expected):
                number = ("num", 0, n * 100, -2) if n else ("num", 0, 0, -3)
                self.assertEqual(whole(form, way, x), (number, ("inexact",)))
        self.assertEqual(whole(form, "up", ("num", 1, 500, -3)), (("num", 1, 0, -3), ("inexact",)))
        self.assertEqual(whole(form, "down", ("num", 1, 500, -3)), (("num", 1, 100, -2), ("inexact",)))

    def test_where_the_integer_is_no_number(self):
        form = (10, 2, -3, -1)
        x, less = ("num", 0, 99, -1), ("num", 1, 95, -1)
        self.assertEqual(whole(form, "even", x), (("inf", 0), ("inexact", "over")))
        self.assertEqual(whole(form, "down", x), (("num", 0, 90, -1), ("inexact",)))
        self.assertEqual(whole(form, "even", less), (("inf", 1), ("inexact", "over")))
        self.assertEqual(whole(form, "up", less), (("num", 1, 90, -1), ("inexact",)))
        lower = (10, 2, -5, -4)
        top = ("num", 0, 99, -4)
        self.assertEqual(whole(lower, "even", top), (("num", 0, 0, -5), ("inexact",)))
        self.assertEqual(whole(lower, "up", top), (("inf", 0), ("inexact", "over")))
        self.assertEqual(whole(lower, "down", ("num", 1, 99, -4)), (("inf", 1), ("inexact", "over")))

    def test_specials(self):
        for form in SMALL_FORMATS + LARGE_FORMATS:
            for way in WAYS:
                for s in (0, 1):
                    zero = ("num", s, 0, form[2])
                    self.assertEqual(whole(form, way, ("inf", s)), (("inf", s), ()))
                    self.assertEqual(whole(form, way, zero), (zero, ()))
                self.assertEqual(whole(form, way, NAN), KEPT)

    def test_a_whole_number_stays(self):
        for form in SMALL_FORMATS:
            for x in numbers_of(form):
                if worth_of(form, x).denominator == 1:
                    for way in WAYS:
                        self.assertEqual(whole(form, way, x), (x, ()))


if __name__ == "__main__":
    unittest.main()
