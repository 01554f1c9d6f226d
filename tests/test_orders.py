"""[2], [13]: the order of VALUES."""

import unittest
from fractions import Fraction

from nearestheld.orders import in_order, less, order_of, same
from nearestheld.worths import zero
from reference import LARGE_FORMATS, SMALL_FORMATS, numbers_of, some_of, values_of, worth_of

SMALL, TENS = (2, 3, -2, 1), (10, 2, -2, 0)


def height(form, value):
    """Something that Python orders as the document orders VALUES that are no nan."""
    if value[0] == "inf":
        return (1 if value[1] == 0 else -1, Fraction(0))
    return (0, worth_of(form, value))


def expected_order(form, x, other, y):
    if ("nan",) in (x, y):
        return None
    one, two = height(form, x), height(other, y)
    return (one > two) - (one < two)


class Pairs(unittest.TestCase):
    def check(self, form, x, other, y):
        told = order_of(form, x, other, y)
        expected = expected_order(form, x, other, y)
        self.assertEqual(told, expected, (form, x, other, y))
        self.assertNotIsInstance(told, bool)
        if form == other:
            self.assertIs(less(form, x, y), expected == -1)
            self.assertIs(same(form, x, y), expected == 0)

    def test_values_of_one_format(self):
        for form in SMALL_FORMATS:
            values = some_of(values_of(form), 60)
            for x in values:
                for y in values:
                    self.check(form, x, form, y)

    def test_values_of_two_formats(self):
        for form in SMALL_FORMATS:
            for other in SMALL_FORMATS:
                for x in some_of(values_of(form), 20):
                    for y in some_of(values_of(other), 20):
                        self.check(form, x, other, y)

    def test_neighbours(self):
        for form in SMALL_FORMATS:
            numbers = sorted(numbers_of(form), key=lambda number: worth_of(form, number))
            for x, y in zip(numbers, numbers[1:]):
                self.check(form, x, form, y)
                self.check(form, y, form, x)

    def test_one_worth_in_two_formats(self):
        self.assertEqual(order_of(SMALL, ("num", 1, 5, -1), TENS, ("num", 1, 25, -1)), 0)
        self.assertEqual(order_of(SMALL, zero(SMALL, 1), TENS, zero(TENS, 0)), 0)
        self.assertEqual(order_of(SMALL, ("num", 0, 5, -1), TENS, ("num", 0, 24, -1)), 1)
        self.assertEqual(order_of(SMALL, ("num", 0, 5, -1), TENS, ("num", 0, 26, -1)), -1)

    def test_large_formats(self):
        for form in LARGE_FORMATS:
            base, digits, low, high = form
            top = base ** digits - 1
            values = [("num", s, c, e) for s in (0, 1) for c, e in ((0, low), (1, low), (top, low), (top, high),
                                                                   (top - 1, high), (base ** (digits - 1), high))]
            for other in LARGE_FORMATS:
                for x in values:
                    self.check(form, x, form, values[3])
                    self.check(form, x, other, ("num", 0, other[0] ** (other[1] - 1), other[3]))


class Lists(unittest.TestCase):
    def rank(self, form, value):
        if value == ("nan",):
            return (2, Fraction(0), 0)
        return height(form, value) + (1 - value[1],)

    def test_in_order(self):
        for form in SMALL_FORMATS:
            values = values_of(form)
            mixed = values[1::2] + values[::-2] + values[:7] + [("nan",), ("inf", 1), zero(form, 1), zero(form, 0)]
            expected = sorted(mixed, key=lambda value: self.rank(form, value))
            before = list(mixed)
            told = in_order(form, mixed)
            self.assertEqual(told, expected)
            self.assertEqual(in_order(form, tuple(mixed)), expected)
            self.assertEqual(in_order(form, mixed[::-1]), expected)
            self.assertEqual(mixed, before)

    def test_each_as_often_as_it_stands_there(self):
        one, nan = ("num", 0, 4, 0), ("nan",)
        self.assertEqual(in_order(SMALL, (nan, one, nan, one, one)), [one, one, one, nan, nan])
        zeros = [zero(SMALL, s) for s in (0, 1, 0, 1)]
        self.assertEqual(in_order(SMALL, zeros), [zero(SMALL, s) for s in (1, 1, 0, 0)])

    def test_a_new_list(self):
        self.assertEqual([in_order(SMALL, []), in_order(SMALL, ())], [[], []])
        values = [("num", 1, 4, 1), ("nan",)]
        told = in_order(SMALL, values)
        self.assertIsInstance(in_order(SMALL, tuple(values)), list)
        self.assertIsNot(told, values)
        told.append(("inf", 0))
        self.assertEqual(in_order(SMALL, values), values)
        self.assertEqual(len(values), 2)


if __name__ == "__main__":
    unittest.main()
