"""[13]: VALUES and their WORTHS."""

import unittest
from fractions import Fraction

from nearestheld.forms import is_fraction, is_number
from nearestheld.worths import (
    is_finite, is_tiny, is_zero, number_of, opposite, sign_of, size, worth, zero,
)
from reference import (
    LARGE_FORMATS, SMALL_FORMATS, bare_sizes_to, edges_of, greatest_size, normal_size, numbers_of, pair_of,
    values_of, worth_of,
)


class Worths(unittest.TestCase):
    def test_all_numbers_of_small_formats(self):
        for form in SMALL_FORMATS:
            for number in numbers_of(form):
                told = worth(form, number)
                self.assertIs(is_fraction(told), True)
                self.assertEqual(told, pair_of(worth_of(form, number)))

    def test_edges_of_large_formats(self):
        for form in LARGE_FORMATS:
            for number in edges_of(form):
                self.assertEqual(worth(form, number), pair_of(worth_of(form, number)))
                self.assertEqual(worth(form, opposite(number)), pair_of(-worth_of(form, number)))

    def test_both_zeros_are_worth_nothing(self):
        for form in SMALL_FORMATS + LARGE_FORMATS:
            self.assertEqual([worth(form, zero(form, s)) for s in (0, 1)], [(0, 1), (0, 1)])


class Numbers(unittest.TestCase):
    def test_there_and_back(self):
        for form in SMALL_FORMATS:
            for number in numbers_of(form):
                expected = zero(form, 0) if number[2] == 0 else number
                self.assertEqual(number_of(form, pair_of(worth_of(form, number))), expected)
        for form in LARGE_FORMATS:
            for number in edges_of(form):
                self.assertEqual(number_of(form, worth(form, number)), number)
                self.assertEqual(number_of(form, worth(form, opposite(number))), opposite(number))

    def test_nothing_between_neighbours(self):
        for form in SMALL_FORMATS:
            sizes = bare_sizes_to(form, form[3])
            for one, other in zip(sizes, sizes[1:]):
                for part in (Fraction(1, 2), Fraction(1, form[0]), Fraction(1, 3), Fraction(1, 10 ** 9)):
                    between = one + (other - one) * part
                    self.assertIsNone(number_of(form, pair_of(between)))
                    self.assertIsNone(number_of(form, pair_of(-between)))

    def test_nothing_beyond_the_ends(self):
        for form in SMALL_FORMATS + LARGE_FORMATS:
            base, digits, low, high = form
            beyond = (base ** digits * Fraction(base) ** high, greatest_size(form) * base,
                      greatest_size(form) * base ** 50, Fraction(base) ** low / base, Fraction(base) ** (low - 50),
                      greatest_size(form) + Fraction(base) ** high / 2, normal_size(form) + Fraction(base) ** low / 2)
            for x in beyond:
                self.assertIsNone(number_of(form, pair_of(x)), (form, x))
                self.assertIsNone(number_of(form, pair_of(-x)), (form, x))

    def test_too_many_digits(self):
        for form in SMALL_FORMATS + LARGE_FORMATS:
            base, digits, low, high = form
            if low < high:
                self.assertIsNone(number_of(form, pair_of((base ** digits + 1) * Fraction(base) ** low)))
                self.assertIsNotNone(number_of(form, pair_of((base ** digits + base) * Fraction(base) ** low)))
            self.assertIsNone(number_of(form, pair_of((base ** digits - 1) * Fraction(base) ** low / base)))

    def test_of_zero(self):
        for form in SMALL_FORMATS + LARGE_FORMATS:
            self.assertEqual(number_of(form, (0, 1)), ("num", 0, 0, form[2]))
            for s in (0, 1):
                self.assertEqual(zero(form, s), ("num", s, 0, form[2]))
                self.assertIs(is_number(form, zero(form, s)), True)


class Kinds(unittest.TestCase):
    def test_all_values(self):
        for form in SMALL_FORMATS:
            normal = normal_size(form)
            for value in values_of(form):
                finite = value[0] == "num"
                of_size = abs(worth_of(form, value)) if finite else None
                self.assertIs(is_finite(value), finite)
                self.assertIs(is_zero(value), finite and of_size == 0)
                self.assertIs(is_tiny(form, value), finite and 0 < of_size < normal)

    def test_tiny_ones_of_large_formats(self):
        for form in LARGE_FORMATS:
            for number in edges_of(form):
                expected = worth_of(form, number) < normal_size(form)
                self.assertIs(is_tiny(form, number), expected)
                self.assertIs(is_tiny(form, opposite(number)), expected)

    def test_infs_and_nan_are_no_numbers(self):
        for value in (("inf", 0), ("inf", 1), ("nan",)):
            self.assertEqual([is_finite(value), is_zero(value), is_tiny((2, 3, -2, 1), value)], [False] * 3)

    def test_signs(self):
        for form in SMALL_FORMATS:
            for value in values_of(form):
                if value == ("nan",):
                    self.assertEqual([sign_of(value), opposite(value), size(value)], [None, value, value])
                else:
                    self.assertEqual(sign_of(value), value[1])
                    self.assertEqual(opposite(value), (value[0], 1 - value[1]) + value[2:])
                    self.assertEqual(size(value), (value[0], 0) + value[2:])


if __name__ == "__main__":
    unittest.main()
