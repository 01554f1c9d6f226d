"""[6], [26]: told digits and told places."""

import unittest
from fractions import Fraction

from nearestheld.reader import read_decimal, reads_back
from nearestheld.shower import enough_digits, kept_digits, told_digits, told_places
from nearestheld.words import decimal_worth, digits_many, is_decimal
from reference import (
    LARGE_FORMATS, LARGEST_FORMATS, SMALL_FORMATS, WAYS, decimal_fraction, edges_of, fraction_of, greatest_size,
    normal_size, numbers_of, place_of, rounded_integer, some_numbers, some_of, worth_of,
)

SMALL, TENS = (2, 3, -2, 1), (10, 2, -2, 0)
THREE = (10, 3, -3, 3)
FORMATS = SMALL_FORMATS + ((20, 2, -1, 0), (6, 3, -4, -3), (10, 3, -2, 0))
FAR_FORMATS = LARGE_FORMATS + LARGEST_FORMATS


def with_places(exact, s, e, way):
    """What told_places tells of a Fraction, with this e."""
    quotient = exact / Fraction(10) ** e
    n = rounded_integer(way, quotient)
    return ((s, abs(n), e), quotient == n)


def with_digits(exact, s, many, way):
    """What told_digits tells of a Fraction that is not 0."""
    e = place_of(abs(exact)) - many + 1
    (s, c, e), is_exact = with_places(exact, s, e, way)
    return ((s, 10 ** (many - 1), e + 1) if c == 10 ** many else (s, c, e), is_exact)


class Digits(unittest.TestCase):
    def check(self, form, number, many):
        for way in WAYS:
            told = told_digits(form, number, many, way)
            self.assertEqual(told, with_digits(worth_of(form, number), number[1], many, way), (form, number, many, way))
            decimal, is_exact = told
            self.assertEqual([is_decimal(decimal), is_exact.__class__], [True, bool])
            self.assertTrue(10 ** (many - 1) <= decimal[1] < 10 ** many)
            self.assertIs(decimal_fraction(decimal) == worth_of(form, number), is_exact)

    def test_small_formats(self):
        for form in FORMATS:
            for number in some_of([number for number in numbers_of(form) if number[2] > 0], 60):
                for many in (1, 2, 3, 5, 20):
                    self.check(form, number, many)

    def test_large_formats(self):
        for form in FAR_FORMATS:
            for number in [number for number in some_numbers(form, 10, 30) if number[2] > 0] + edges_of(form)[:8:3]:
                for many in (1, 17, 186, 400):
                    self.check(form, number, many)

    def test_many_of_1_and_400(self):
        for s in (0, 1):
            self.assertEqual(told_digits(SMALL, ("num", s, 7, 1), 1, "even"), ((s, 1, 1), False))
            self.assertEqual(told_digits(SMALL, ("num", s, 7, 1), 2, "even"), ((s, 14, 0), True))
            self.assertEqual(told_digits(SMALL, ("num", s, 7, 1), 400, "even"), ((s, 14 * 10 ** 398, -398), True))
            self.assertEqual(told_digits(SMALL, ("num", s, 1, -2), 400, "even"), ((s, 25 * 10 ** 398, -400), True))

    def test_at_halves(self):
        for c, ends in ((125, (12, 13, 13, 12, 12)), (135, (14, 14, 14, 13, 13)), (126, (13, 13, 13, 12, 12)), (124, (12, 12, 13, 12, 12))):
            for way, end in zip(WAYS, ends):
                self.assertEqual(told_digits(THREE, ("num", 0, c, -2), 2, way), ((0, end, -1), False))
        for way, end in zip(WAYS, (12, 13, 12, 13, 12)):
            self.assertEqual(told_digits(THREE, ("num", 1, 125, -2), 2, way), ((1, end, -1), False))

    def test_where_it_becomes_a_power_of_ten(self):
        for way, expected in zip(WAYS, ((10, 0), (10, 0), (10, 0), (99, -1), (99, -1))):
            self.assertEqual(told_digits(THREE, ("num", 0, 995, -2), 2, way), ((0,) + expected, False))
            self.assertEqual(told_digits(THREE, ("num", 0, 999, -3), 1, way), ((0, 1, 0) if expected[0] == 10 else (0, 9, -1), False))
        self.assertEqual(told_digits(THREE, ("num", 1, 999, 3), 2, "down"), ((1, 10, 5), False))
        self.assertEqual(told_digits(THREE, ("num", 1, 999, 3), 2, "up"), ((1, 99, 4), False))
        self.assertEqual(told_digits(THREE, ("num", 1, 999, 3), 3, "up"), ((1, 999, 3), True))
        self.assertEqual(told_digits(THREE, ("num", 0, 994, 3), 2, "even"), ((0, 99, 4), False))

    def test_zeros(self):
        for form in FORMATS + FAR_FORMATS:
            for s in (0, 1):
                for many in (1, 2, 400):
                    for way in WAYS:
                        self.assertEqual(told_digits(form, ("num", s, 0, form[2]), many, way), ((s, 0, 0), True))


class Places(unittest.TestCase):
    def check(self, form, number, places):
        for way in WAYS:
            told = told_places(form, number, places, way)
            self.assertEqual(told, with_places(worth_of(form, number), number[1], -places, way), (form, number, places, way))
            decimal, is_exact = told
            self.assertEqual([is_decimal(decimal), is_exact.__class__], [True, bool])
            self.assertIs(fraction_of(decimal_worth(decimal)) == worth_of(form, number), is_exact)

    def test_small_formats(self):
        for form in FORMATS:
            for number in some_of(numbers_of(form), 60):
                for places in (-3, -2, -1, 0, 1, 2, 3, 8):
                    self.check(form, number, places)

    def test_large_formats(self):
        for form in FAR_FORMATS:
            for number in some_numbers(form, 10, 31) + edges_of(form)[:8:3]:
                for places in (-2000, -100, -1, 0, 1, 186, 2000):
                    self.check(form, number, places)

    def test_the_farthest(self):
        for form in FAR_FORMATS:
            great = ("num", 1, form[0] ** form[1] - 1, form[3])
            least = ("num", 1, 1, form[2])
            for places in (-2000, 2000):
                self.check(form, great, places)
                self.check(form, least, places)
        self.assertEqual(told_places(SMALL, ("num", 0, 7, 1), 2000, "up"), ((0, 14 * 10 ** 2000, -2000), True))
        self.assertEqual(told_places(SMALL, ("num", 0, 7, 1), -2000, "up"), ((0, 1, 2000), False))
        self.assertEqual(told_places(SMALL, ("num", 1, 7, 1), -2000, "up"), ((1, 0, 2000), False))

    def test_at_halves(self):
        for c, ends in ((500, (0, 1, 1, 0, 0)), (250, (2, 3, 3, 2, 2)), (350, (4, 4, 4, 3, 3)), (499, (5, 5, 5, 4, 4))):
            number = ("num", 0, c, -3 if c == 500 else -2)
            self.assertEqual([told_places(THREE, number, 0, way) for way in WAYS], [((0, end, 0), False) for end in ends])
        self.assertEqual([told_places(THREE, ("num", 1, 250, -2), 0, way)[0][1] for way in WAYS], [2, 3, 2, 3, 2])
        self.assertEqual([told_places(THREE, ("num", 0, 995, -2), 1, way)[0] for way in WAYS],
                         [(0, 100, -1), (0, 100, -1), (0, 100, -1), (0, 99, -1), (0, 99, -1)])

    def test_zeros_keep_their_signs(self):
        for form in FORMATS + FAR_FORMATS:
            for s in (0, 1):
                for places in (-2000, -1, 0, 3, 2000):
                    self.assertEqual(told_places(form, ("num", s, 0, form[2]), places, "down"), ((s, 0, -places), True))
        self.assertEqual(told_places(SMALL, ("num", 1, 1, -2), 0, "zero"), ((1, 0, 0), False))
        self.assertEqual(told_places(SMALL, ("num", 1, 1, -2), 0, "down"), ((1, 1, 0), False))


class Enough(unittest.TestCase):
    def test_each_base_and_digits(self):
        for base in range(2, 37, 2):
            enough, kept = 0, 0
            for digits in range(2, 121):
                while 10 ** (enough - 1) <= base ** digits:
                    enough += 1
                while 10 ** (kept + 1) < base ** (digits - 1):
                    kept += 1
                form = (base, digits, -digits, digits)
                self.assertEqual([enough_digits(form), kept_digits(form)], [enough, kept], form)

    def test_powers_of_ten(self):
        for digits in (2, 3, 16, 120):
            form = (10, digits, -1200, 1200)
            self.assertEqual([enough_digits(form), kept_digits(form)], [digits + 2, digits - 2])

    def test_told_with_enough_each_number_is_read_back(self):
        for form in FORMATS + FAR_FORMATS:
            many = enough_digits(form)
            for number in some_of(numbers_of(form), 60) if form in FORMATS else some_numbers(form, 30, 32) + edges_of(form):
                self.assertIs(reads_back(form, told_digits(form, number, many, "even")[0], number), True)

    def test_so_many_digits_are_kept(self):
        for form in ((2, 5, -3, 9), (2, 8, -9, 0), (10, 4, -3, 3), (6, 4, -2, 2), (36, 3, -2, 1), (20, 3, -1, 2)):
            many = kept_digits(form)
            self.assertGreater(many, 0)
            seen = 0
            for c in range(1, 10 ** many):
                for e in range(-7, 6):
                    decimal = (0, c, e)
                    if normal_size(form) <= decimal_fraction(decimal) <= greatest_size(form):
                        seen += 1
                        number = read_decimal(form, "even", decimal)[0]
                        told = told_digits(form, number, many, "even")[0]
                        self.assertEqual(decimal_fraction(told), decimal_fraction(decimal))
                        self.assertLessEqual(digits_many(told), many)
            self.assertGreater(seen, 20)


if __name__ == "__main__":
    unittest.main()
