"""[5], [10], [21], [22]: VALUES of one format turned into another, and formats that lie in one another."""

import unittest
from fractions import Fraction
from functools import lru_cache

from nearestheld.forms import are_flags, is_number, is_outcome
from nearestheld.turning import from_integer, integer_of, is_within, lost_number, turned
from reference import (
    LARGE_FORMATS, LARGEST_FORMATS, SMALL_FORMATS, WAYS, bare_sizes_to, edges_of, greatest_size, normal_size,
    numbers_of, outcome, outcome_in_large, rounded_integer, some_numbers, some_of, worth_of,
)

NAN = ("nan",)
SMALL, TENS = (2, 3, -2, 1), (10, 2, -2, 0)
FORMATS = SMALL_FORMATS + ((2, 5, -4, 4), (4, 2, -3, 3), (2, 2, -1, 9), (10, 3, -2, 1), (20, 2, -1, 1), (36, 2, 0, 1))
FAR_FORMATS = LARGE_FORMATS + LARGEST_FORMATS


class Turned(unittest.TestCase):
    def test_couples_of_small_formats(self):
        for form in FORMATS:
            numbers = some_of(numbers_of(form), 16)
            for other in FORMATS:
                for number in numbers:
                    for way in WAYS:
                        told = turned(form, way, other, number)
                        expected = outcome(other, way, worth_of(form, number), number[1])
                        self.assertEqual(told, expected, (form, way, other, number))

    def test_each_is_itself_in_its_own_format(self):
        for form in FORMATS:
            for number in numbers_of(form):
                for way in WAYS:
                    self.assertEqual(turned(form, way, form, number), (number, ()))

    def test_to_fewer_digits_at_halves(self):
        long, short = (2, 6, -5, 5), (2, 3, -2, 5)
        for c, ends in ((36, (4, 5, 5, 4, 4)), (44, (6, 6, 6, 5, 5)), (37, (5, 5, 5, 4, 4)), (35, (4, 4, 5, 4, 4))):
            for way, end in zip(WAYS, ends):
                self.assertEqual(turned(long, way, short, ("num", 0, c, 1)), (("num", 0, end, 4), ("inexact",)))
        self.assertEqual(turned(long, "even", short, ("num", 0, 63, -5)), (("num", 0, 4, -1), ("inexact",)))
        self.assertEqual(turned(long, "even", short, ("num", 1, 4, -5)), (("num", 1, 0, -2), ("inexact", "tiny")))
        self.assertEqual(turned(long, "away", short, ("num", 1, 4, -5)), (("num", 1, 1, -2), ("inexact", "tiny")))
        self.assertEqual(turned(long, "down", short, ("num", 0, 63, 2)), (("num", 0, 7, 5), ("inexact",)))
        self.assertEqual(turned(long, "even", short, ("num", 0, 63, 2)), (("inf", 0), ("inexact", "over")))

    def test_what_goes_over(self):
        far, near = (10, 3, -9, 9), (10, 2, -2, 2)
        for s in (0, 1):
            number, top, inf = ("num", s, 999, 9), ("num", s, 99, 2), ("inf", s)
            ends = {"even": inf, "away": inf, "zero": top, "up": inf if s == 0 else top, "down": top if s == 0 else inf}
            for way in WAYS:
                self.assertEqual(turned(far, way, near, number), (ends[way], ("inexact", "over")))
            self.assertEqual(turned(far, "zero", near, ("num", s, 994, 1)), (top, ("inexact",)))
            self.assertEqual(turned(far, "even", near, ("num", s, 994, 1)), (top, ("inexact",)))
            self.assertEqual(turned(far, "even", near, ("num", s, 995, 1)), (inf, ("inexact", "over")))
            self.assertEqual(turned(far, "even", near, ("num", s, 990, 1)), (top, ()))

    def test_large_formats(self):
        for form in FAR_FORMATS:
            for other in FAR_FORMATS[::2] + (SMALL, TENS):
                for number in some_numbers(form, 8, 3):
                    for way in WAYS:
                        told = turned(form, way, other, number)
                        expected = outcome_in_large(other, way, worth_of(form, number), number[1])
                        self.assertEqual(told, expected, (form, way, other, number))

    def test_infs_nans_and_zeros(self):
        for form in FORMATS + FAR_FORMATS:
            for other in FORMATS[:4] + FAR_FORMATS[:2]:
                for way in WAYS:
                    self.assertEqual(turned(form, way, other, NAN), (NAN, ()))
                    for s in (0, 1):
                        self.assertEqual(turned(form, way, other, ("inf", s)), (("inf", s), ()))
                        zeros = [("num", s, 0, one[2]) for one in (form, other)]
                        self.assertEqual(turned(form, way, other, zeros[0]), (zeros[1], ()))


class Integers(unittest.TestCase):
    def test_small_ones(self):
        for form in FORMATS:
            for n in list(range(-300, 301)) + [10 ** 4, -10 ** 4]:
                for way in WAYS:
                    self.assertEqual(from_integer(form, way, n), outcome(form, way, Fraction(n), 0), (form, way, n))

    def test_zero_has_the_sign_0(self):
        for form in FORMATS + FAR_FORMATS:
            for way in WAYS:
                self.assertEqual(from_integer(form, way, 0), (("num", 0, 0, form[2]), ()))

    def test_long_ones(self):
        for form in FAR_FORMATS:
            base, digits, low, high = form
            top = int(greatest_size(form))
            half = base ** 50 // 2
            for n in (7 ** 3000, 10 ** 1000 + 1, top, top + 1, top + base ** high // 2, top + base ** high, top * base ** 900,
                      base ** (digits + 50) + half, base ** (digits + 50) + half + 1, base ** (digits + 50) + half - 1,
                      base ** (digits + 50) + base ** 50 + half, base ** 700, base ** 700 - 1, 3):
                for way in WAYS:
                    for signed in (n, -n):
                        told = from_integer(form, way, signed)
                        self.assertIs(is_outcome(form, told), True)
                        self.assertEqual(told, outcome_in_large(form, way, Fraction(signed), 0))

    def test_halves(self):
        for n, ends in ((36, (4, 5, 5, 4, 4)), (44, (6, 6, 6, 5, 5)), (35, (4, 4, 5, 4, 4)), (-36, (4, 5, 4, 5, 4))):
            for way, c in zip(WAYS, ends):
                self.assertEqual(from_integer((2, 3, 0, 9), way, n), (("num", int(n < 0), c, 3), ("inexact",)))

    def test_of_values(self):
        for form in FORMATS:
            for number in numbers_of(form):
                exact = worth_of(form, number)
                for way in WAYS:
                    told = integer_of(form, way, number)
                    flags = () if exact.denominator == 1 else ("inexact",)
                    self.assertEqual(told, (rounded_integer(way, exact), flags), (form, way, number))
                    self.assertIs(told[0].__class__, int)
                    self.assertIs(are_flags(told[1]), True)

    def test_of_values_at_halves(self):
        form = (10, 3, -3, 3)
        for c, ends in ((500, (0, 1, 1, 0, 0)), (250, (2, 3, 3, 2, 2)), (350, (4, 4, 4, 3, 3)), (251, (3, 3, 3, 2, 2))):
            number = ("num", 0, c, -3 if c == 500 else -2)
            self.assertEqual([integer_of(form, way, number) for way in WAYS], [(n, ("inexact",)) for n in ends])
        for way, n in zip(WAYS, (-2, -3, -2, -3, -2)):
            self.assertEqual(integer_of(form, way, ("num", 1, 250, -2)), (n, ("inexact",)))
        self.assertEqual(integer_of(form, "up", ("num", 1, 1, -3)), (0, ("inexact",)))
        self.assertEqual(integer_of(form, "down", ("num", 1, 1, -3)), (-1, ("inexact",)))

    def test_of_values_of_large_formats(self):
        for form in FAR_FORMATS:
            for number in some_numbers(form, 30, 5) + edges_of(form):
                exact = worth_of(form, number)
                for way in WAYS:
                    flags = () if exact.denominator == 1 else ("inexact",)
                    self.assertEqual(integer_of(form, way, number), (rounded_integer(way, exact), flags))

    def test_of_infs_nans_and_zeros(self):
        for form in FORMATS + FAR_FORMATS:
            for way in WAYS:
                for value in (NAN, ("inf", 0), ("inf", 1)):
                    self.assertEqual(integer_of(form, way, value), (None, ("invalid",)))
                for s in (0, 1):
                    self.assertEqual(integer_of(form, way, ("num", s, 0, form[2])), (0, ()))


# Each two of these are a couple: like and unlike bases, few and many digits, low and high e.
COUPLED = tuple(
    (base, digits, low, high)
    for base in (2, 4, 6, 10, 36) for digits in (2, 3) for low, high in ((-3, -1), (0, 0), (-1, 2), (1, 3), (-2, 0))
    if base ** digits <= 1296
) + ((2, 5, -4, 4), (2, 7, -6, 2), (2, 10, -9, 8), (4, 5, -4, 4), (6, 4, -1, 1), (10, 4, -4, 1), (8, 2, -1, 1), (20, 2, 0, 1))


@lru_cache(maxsize=None)
def sizes_of(form):
    return frozenset(bare_sizes_to(form, form[3]))


class Within(unittest.TestCase):
    def check(self, form, other, lost):
        told = lost_number(form, other)
        self.assertIs(is_within(form, other), not lost)
        if not lost:
            self.assertIsNone(told)
        else:
            self.assertIs(is_number(form, told), True)
            self.assertIn(abs(worth_of(form, told)), lost)

    def test_couples_against_going_through_all(self):
        seen = {True: 0, False: 0}
        for form in COUPLED:
            for other in COUPLED:
                lost = sizes_of(form) - sizes_of(other)
                with self.subTest(form=form, other=other):
                    self.check(form, other, lost)
                seen[lost == set()] += 1
        self.assertGreater(min(seen.values()), 150)

    def test_unlike_bases_that_lie_in_one_another(self):
        for form, other in (
            ((2, 2, 0, 2), (10, 2, -2, 0)), ((2, 3, -2, 1), (4, 3, -1, 1)), ((4, 2, -1, 1), (2, 4, -2, 2)),
            ((6, 2, 0, 0), (36, 2, 0, 0)), ((36, 2, 0, 1), (6, 4, 0, 2)), ((2, 3, -2, 0), (10, 3, -2, 0)),
            ((2, 2, 0, 0), (6, 2, 0, 0)), ((10, 2, 0, 0), (2, 7, 0, 0)), ((2, 3, 1190, 1190), (4, 2, 595, 596)),
        ):
            self.check(form, other, sizes_of(form) - sizes_of(other))
            self.assertIs(is_within(form, other), True)

    def test_turned_there_and_back(self):
        for form in COUPLED:
            for other in COUPLED[::3]:
                if is_within(form, other):
                    for number in some_of(numbers_of(form), 20):
                        for way in WAYS:
                            told, flags = turned(form, way, other, number)
                            self.assertEqual([flags, turned(other, "up", form, told)], [(), (number, ())])

    def test_only_one_end_is_lost(self):
        for form, other, is_lost in (
            ((2, 4, -3, 5), (2, 4, -2, 5), lambda size: size < 2),
            ((2, 4, -3, 5), (2, 4, -3, 4), lambda size: size > 15 * 16),
            ((10, 3, -2, 3), (10, 3, -1, 3), lambda size: size < 10),
            ((10, 2, 0, 3), (10, 4, 0, 1), None),
            ((10, 2, 0, 4), (10, 4, 0, 1), lambda size: size >= 10 ** 5),
            ((2, 4, 0, 0), (10, 2, -1, -1), lambda size: size >= 10),
            ((2, 3, -2, 3), (4, 2, -1, 0), lambda size: size >= 16),
        ):
            lost = sizes_of(form) - sizes_of(other)
            self.assertEqual(lost == set(), is_lost is None)
            self.assertTrue(all(is_lost(size) for size in lost))
            self.check(form, other, lost)

    def test_only_few_numbers_are_lost(self):
        for form, other, lost in (((2, 2, 0, 1), (2, 2, 0, 0), {4, 6}), ((2, 4, 0, 0), (2, 3, 0, 1), {9, 11, 13, 15}),
                                  ((2, 3, 0, 1), (4, 2, -1, 0), set()), ((2, 2, 1, 1), (10, 2, -1, -1), set()),
                                  ((2, 3, 1, 1), (10, 2, -1, -1), {10, 12, 14}), ((2, 2, 2, 2), (10, 2, -1, -1), {12}),
                                  ((2, 2, -1, -1), (10, 2, 0, 0), {Fraction(1, 2), Fraction(3, 2)})):
            found = sizes_of(form) - sizes_of(other)
            self.assertEqual(found, lost)
            self.check(form, other, found)

    def test_large_formats(self):
        for form in FAR_FORMATS:
            base, digits, low, high = form
            self.assertIsNone(lost_number(form, form))
            if digits < 120:
                continue
            self.assertIs(is_within((base, 119, low, high), form), True)
            self.assertIs(is_within((base, 120, low + 1, high - 1), form), True)
            told = lost_number(form, (base, digits, low + 1, high))
            self.assertEqual((told[3], told[2] % base == 0), (low, False))
            told = lost_number(form, (base, digits, low, high - 1))
            self.assertEqual(told[3], high)
            told = lost_number(form, (base, digits - 1, low, high))
            self.assertNotEqual(told[2] % base, 0)

    def test_large_formats_of_unlike_bases(self):
        for form, other, expected in (
            ((2, 118, -1200, 1200), (4, 60, -600, 600), True), ((2, 119, -1200, 1200), (4, 60, -600, 600), True),
            ((2, 120, -1200, 1200), (4, 60, -600, 600), False), ((4, 60, -600, 600), (2, 120, -1200, 1200), True),
            ((36, 60, -600, 600), (6, 120, -1200, 1200), True), ((36, 61, -600, 600), (6, 120, -1200, 1200), False),
            ((6, 120, -1200, 1200), (36, 61, -600, 600), True), ((6, 120, -1200, 1200), (36, 60, -600, 600), False),
            ((6, 120, -1200, 1200), (36, 61, -599, 600), False), ((2, 53, -60, 60), (10, 80, -70, 70), True),
            ((2, 53, -1074, 971), (10, 120, -1200, 1200), False), ((10, 20, 0, 50), (2, 119, 0, 200), False),
            ((10, 20, 0, 22), (2, 119, 0, 200), True), ((10, 120, -1200, 1200), (20, 120, -1200, 1200), False),
        ):
            with self.subTest(form=form, other=other):
                self.assertIs(is_within(form, other), expected)
                told = lost_number(form, other)
                self.assertEqual(told is None, expected)
                if told is not None:
                    self.assertIs(is_number(form, told), True)
                    exact = worth_of(form, told)
                    self.assertIn("inexact", outcome_in_large(other, "zero", exact, 0)[1])

    def test_tiny_ones_of_the_other(self):
        # All NUMBERS are TINY in the other one, or those that are have few digits there.
        for form, other in (((2, 4, 0, 0), (2, 10, 0, 5)), ((2, 4, 0, 0), (2, 10, 1, 5)), ((10, 2, 0, 1), (20, 4, 0, 0)),
                            ((2, 3, -1, 3), (6, 5, -1, 1)), ((4, 2, 1, 2), (6, 5, 0, 1))):
            self.assertLess(max(sizes_of(form)), normal_size(other))
            self.check(form, other, sizes_of(form) - sizes_of(other))


if __name__ == "__main__":
    unittest.main()
