"""[18]: scaling, the lesser and the greater one."""

import unittest
from fractions import Fraction

from nearestheld.scaling import greatest, least, scale
from reference import (
    LARGE_FORMATS, SMALL_FORMATS, WAYS, numbers_of, outcome, outcome_in_large, some_numbers, some_of,
    values_of, worth_of,
)

NAN = ("nan",)
KEPT = (NAN, ())


class Scale(unittest.TestCase):
    def check(self, form, x, n, told_by):
        exact = worth_of(form, x) * Fraction(form[0]) ** n
        for way in WAYS:
            told = scale(form, way, x, n)
            self.assertEqual(told, told_by(form, way, exact, x[1]), (form, way, x, n))

    def test_small_formats(self):
        for form in SMALL_FORMATS:
            for x in some_of(numbers_of(form), 60):
                for n in (-7, -3, -2, -1, 0, 1, 2, 3, 7):
                    self.check(form, x, n, outcome)

    def test_large_formats(self):
        for form in LARGE_FORMATS:
            for x in some_numbers(form, 25, 6):
                for n in (-2400, -form[1], -1, 0, 1, 700):
                    self.check(form, x, n, outcome_in_large)

    def test_the_farthest(self):
        for form in SMALL_FORMATS + LARGE_FORMATS:
            base, digits, low, high = form
            top = base ** digits - 1
            for s in (0, 1):
                x = ("num", s, top, high)
                for n in (9999, -9999):
                    self.assertEqual(scale(form, "even", ("num", s, 0, low), n), (("num", s, 0, low), ()))
                self.assertEqual(scale(form, "even", x, 9999), (("inf", s), ("inexact", "over")))
                self.assertEqual(scale(form, "zero", x, 9999), (x, ("inexact", "over")))
                outward = "down" if s else "up"
                self.assertEqual(scale(form, "away", x, -9999), (("num", s, 0, low), ("inexact", "tiny")))
                self.assertEqual(scale(form, outward, x, -9999), (("num", s, 1, low), ("inexact", "tiny")))

    def test_there_and_back(self):
        form = (10, 3, -3, 3)
        self.assertEqual(scale(form, "up", ("num", 0, 123, -3), 6), (("num", 0, 123, 3), ()))
        self.assertEqual(scale(form, "up", ("num", 0, 123, 3), -6), (("num", 0, 123, -3), ()))
        self.assertEqual(scale(form, "up", ("num", 0, 1, -3), 8), (("num", 0, 100, 3), ()))

    def test_specials(self):
        for form in SMALL_FORMATS + LARGE_FORMATS:
            for way in WAYS:
                for n in (-9999, 0, 9999):
                    self.assertEqual(scale(form, way, NAN, n), KEPT)
                    for s in (0, 1):
                        self.assertEqual(scale(form, way, ("inf", s), n), (("inf", s), ()))


class LesserAndGreater(unittest.TestCase):
    def height(self, form, value):
        if value[0] == "inf":
            return (1 if value[1] == 0 else -1, Fraction(0), 0)
        return (0, worth_of(form, value), 1 - value[1] if value[2] == 0 else 0)

    def test_all_pairs(self):
        for form in SMALL_FORMATS:
            values = some_of(values_of(form), 80) + [("num", 0, 0, form[2]), ("num", 1, 0, form[2])]
            for x in values:
                for y in values:
                    if NAN in (x, y):
                        self.assertEqual([least(form, x, y), greatest(form, x, y)], [KEPT, KEPT])
                        continue
                    low, high = sorted((x, y), key=lambda value: self.height(form, value))
                    self.assertEqual([least(form, x, y), greatest(form, x, y)], [(low, ()), (high, ())])

    def test_zeros_of_unlike_signs(self):
        for form in SMALL_FORMATS + LARGE_FORMATS:
            plus, minus = ("num", 0, 0, form[2]), ("num", 1, 0, form[2])
            for x, y in ((plus, minus), (minus, plus)):
                self.assertEqual([least(form, x, y), greatest(form, x, y)], [(minus, ()), (plus, ())])
            for one in (plus, minus):
                self.assertEqual([least(form, one, one), greatest(form, one, one)], [(one, ()), (one, ())])

    def test_large_formats(self):
        for form in LARGE_FORMATS:
            numbers = some_numbers(form, 80, 7)
            for x, y in zip(numbers, numbers[1:]):
                low, high = sorted((x, y), key=lambda value: self.height(form, value))
                self.assertEqual([least(form, x, y), greatest(form, x, y)], [(low, ()), (high, ())])


if __name__ == "__main__":
    unittest.main()
