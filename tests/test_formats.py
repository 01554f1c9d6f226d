"""[10], [19], [20]: what a format has, and the RANKS of its VALUES."""

import unittest
from bisect import bisect_right
from fractions import Fraction

from nearestheld.errors import NearError, TooMany
from nearestheld.formats import (
    greatest_number, least_normal, least_tiny, next_down, next_up, numbers_many, numbers_of, rank_of,
    steps_between, unit_of, value_at,
)
from nearestheld.forms import is_fraction, is_number, is_value
from nearestheld.orders import in_order
from reference import (
    LARGE_FORMATS, LARGEST_FORMATS, SMALL_FORMATS, bare_sizes_to, edges_of, fraction_of, greatest_size,
    normal_size, numbers_in_order, some_of, worth_of,
)

NAN, TOP, BOTTOM = ("nan",), ("inf", 0), ("inf", 1)
# Bases 2, 4, 6, 10, 20, 36, and each of these with few and with many e.
FORMATS = SMALL_FORMATS + (
    (20, 2, -3, -1), (36, 2, 1200, 1200), (2, 9, -1, 0), (4, 3, -2, 2), (6, 3, 0, 0), (10, 3, -1, 0), (2, 2, 0, 40),
)
FAR_FORMATS = LARGE_FORMATS + LARGEST_FORMATS


def values_in_order(form):
    """The VALUES with RANKS in their order; the zero with the SIGN 1 is left out."""
    return [BOTTOM] + [number for number in numbers_in_order(form) if number[1:3] != (1, 0)] + [TOP]


class Ends(unittest.TestCase):
    def test_small_formats(self):
        for form in FORMATS:
            sizes = bare_sizes_to(form, form[3])
            for told, size in ((greatest_number(form), sizes[-1]), (least_tiny(form), sizes[1]),
                               (least_normal(form), normal_size(form))):
                self.assertIs(is_number(form, told), True)
                self.assertEqual((told[1], worth_of(form, told)), (0, size))

    def test_large_formats(self):
        for form in FAR_FORMATS:
            base, digits, low, high = form
            self.assertEqual(greatest_number(form), ("num", 0, base ** digits - 1, high))
            self.assertEqual(least_normal(form), ("num", 0, base ** (digits - 1), low))
            self.assertEqual(least_tiny(form), ("num", 0, 1, low))
            self.assertEqual(worth_of(form, greatest_number(form)), greatest_size(form))

    def test_unit(self):
        for form in FORMATS + FAR_FORMATS:
            for number in edges_of(form):
                told = unit_of(form, number)
                self.assertIs(is_fraction(told), True)
                self.assertEqual(fraction_of(told), Fraction(form[0]) ** number[3])
                self.assertEqual(unit_of(form, ("num", 1) + number[2:]), told)


class Lists(unittest.TestCase):
    def test_all_numbers_in_their_order(self):
        for form in FORMATS:
            told = numbers_of(form)
            self.assertIs(told.__class__, list)
            self.assertEqual(told, numbers_in_order(form))
            self.assertEqual(told, in_order(form, told[::-1]))
            self.assertEqual(numbers_many(form), len(numbers_in_order(form)))

    def test_just_as_many_as_are_listed(self):
        for low in (0, -60, -1200):
            for off, many in ((122, 3968), (123, 4000)):
                form = (2, 5, low, low + off)
                self.assertEqual([numbers_many(form), len(numbers_of(form))], [many, many])
            form = (2, 5, low, low + 124)
            self.assertEqual(numbers_many(form), 4032)
            self.check_too_many(form)
        self.assertEqual(len(numbers_of((2, 2, -500, 498))), 4000)
        self.check_too_many((2, 2, -500, 499))
        self.assertEqual(len(numbers_of((36, 2, 7, 7))), 2 * 36 ** 2)
        self.check_too_many((36, 2, 7, 8))

    def test_large_formats_are_counted_and_not_listed(self):
        for form in FAR_FORMATS:
            base, digits, low, high = form
            full = (base - 1) * base ** (digits - 1)
            self.assertEqual(numbers_many(form), 2 * (base ** (digits - 1) + full * (high - low + 1)))
            self.check_too_many(form)

    def check_too_many(self, form):
        with self.assertRaises(TooMany) as caught:
            numbers_of(form)
        self.assertEqual(caught.exception.most, 4000)
        self.assertIsInstance(caught.exception, NearError)

    def test_a_list_may_be_changed(self):
        form = (2, 3, -2, 1)
        first = numbers_of(form)
        first.reverse()
        first.append(NAN)
        self.assertEqual(numbers_of(form), numbers_in_order(form))


class Ranks(unittest.TestCase):
    def test_one_after_the_other(self):
        for form in FORMATS:
            values = values_in_order(form)
            middle = len(values) // 2
            self.assertEqual(values[middle], ("num", 0, 0, form[2]))
            for at, value in enumerate(values):
                self.assertEqual(rank_of(form, value), at - middle)
                self.assertEqual(value_at(form, at - middle), value)
            self.assertEqual(rank_of(form, ("num", 1, 0, form[2])), 0)

    def test_a_rank_counts_the_numbers_above_zero(self):
        for form in FORMATS:
            sizes = bare_sizes_to(form, form[3])[1:]
            for number in numbers_in_order(form):
                many = bisect_right(sizes, abs(worth_of(form, number)))
                self.assertEqual(rank_of(form, number), -many if number[1] else many)

    def test_beyond_all(self):
        for form in FORMATS + FAR_FORMATS:
            top = numbers_many(form) // 2
            self.assertEqual([rank_of(form, TOP), rank_of(form, BOTTOM)], [top, -top])
            self.assertEqual([value_at(form, top), value_at(form, -top)], [TOP, BOTTOM])
            for more in (1, 2, form[0] ** form[1], 2 * top, 10 ** 200):
                self.assertEqual([value_at(form, top + more), value_at(form, -top - more)], [None, None])

    def test_large_formats(self):
        for form in FAR_FORMATS:
            base, digits, low, high = form
            top = numbers_many(form) // 2
            self.assertEqual([rank_of(form, number) for number in (
                ("num", 0, 1, low), ("num", 1, base ** (digits - 1), low), ("num", 0, base ** digits - 1, low),
                ("num", 0, base ** digits - 1, high), ("num", 1, base ** digits - 1, high),
            )], [1, -base ** (digits - 1), base ** digits - 1, top - 1, 1 - top])
            for number in edges_of(form):
                for value in (number, ("num", 1) + number[2:]):
                    self.assertEqual(value_at(form, rank_of(form, value)), value)
            for rank in (0, 1, -1, base ** digits, -base ** digits, top // 3, -(top // 7), top - 1):
                value = value_at(form, rank)
                self.assertIs(is_value(form, value), True)
                self.assertEqual(rank_of(form, value), rank)


class Neighbours(unittest.TestCase):
    def test_small_formats(self):
        for form in FORMATS:
            values = values_in_order(form)
            for value, other in zip(values, values[1:]):
                up, down = other, value
                if value[1:] == (1, 1, form[2]):
                    up = ("num", 1, 0, form[2])
                self.assertEqual(next_up(form, value), up)
                self.assertEqual(next_down(form, other), down)

    def test_zeros(self):
        for form in FORMATS + FAR_FORMATS:
            low = form[2]
            for s in (0, 1):
                self.assertEqual(next_up(form, ("num", s, 0, low)), ("num", 0, 1, low))
                self.assertEqual(next_down(form, ("num", s, 0, low)), ("num", 1, 1, low))
            self.assertEqual(next_up(form, ("num", 1, 1, low)), ("num", 1, 0, low))
            self.assertEqual(next_down(form, ("num", 0, 1, low)), ("num", 0, 0, low))

    def test_ends(self):
        for form in FORMATS + FAR_FORMATS:
            great, less = greatest_number(form), ("num", 1) + greatest_number(form)[2:]
            self.assertEqual([next_up(form, value) for value in (great, TOP, BOTTOM, NAN)], [TOP, TOP, less, NAN])
            self.assertEqual([next_down(form, value) for value in (less, BOTTOM, TOP, NAN)], [BOTTOM, BOTTOM, great, NAN])

    def test_at_powers_of_the_base(self):
        for form in FORMATS + FAR_FORMATS:
            base, digits, low, high = form
            full, top = base ** (digits - 1), base ** digits - 1
            for e in (low + 1, (low + high) // 2, high):
                if low < e <= high:
                    for s, outward, inward in ((0, next_up, next_down), (1, next_down, next_up)):
                        self.assertEqual(outward(form, ("num", s, top, e - 1)), ("num", s, full, e))
                        self.assertEqual(inward(form, ("num", s, full, e)), ("num", s, top, e - 1))
            # From TINY to NORMAL nothing is left out.
            self.assertEqual(next_up(form, ("num", 0, full - 1, low)), least_normal(form))
            self.assertEqual(next_down(form, least_normal(form)), ("num", 0, full - 1, low))


class Steps(unittest.TestCase):
    def test_small_formats(self):
        for form in FORMATS:
            values = values_in_order(form)
            picked = some_of(list(enumerate(values)), 40)
            for at, x in picked:
                for other, y in picked:
                    self.assertEqual(steps_between(form, x, y), other - at)

    def test_zeros_and_infs(self):
        for form in FORMATS + FAR_FORMATS:
            zeros = [("num", s, 0, form[2]) for s in (0, 1)]
            many = numbers_many(form)
            self.assertEqual([steps_between(form, x, y) for x in zeros for y in zeros], [0] * 4)
            self.assertEqual([steps_between(form, BOTTOM, TOP), steps_between(form, TOP, BOTTOM)], [many, -many])
            self.assertEqual([steps_between(form, TOP, TOP), steps_between(form, BOTTOM, BOTTOM)], [0, 0])
            self.assertEqual(steps_between(form, zeros[1], TOP), many // 2)
            self.assertEqual(steps_between(form, greatest_number(form), TOP), 1)
            self.assertEqual(steps_between(form, least_tiny(form), BOTTOM), -many // 2 - 1)


if __name__ == "__main__":
    unittest.main()
