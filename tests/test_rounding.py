"""[2], [5], [14]: rounding."""

import unittest
from fractions import Fraction
from math import isqrt

from nearestheld.forms import is_fraction, is_outcome
from nearestheld.rounding import (
    above, below, is_rounded, joined, most_error, rounded, rounded_root, unit_at,
)
from reference import (
    LARGE_FORMATS, SMALL_FORMATS, WAYS, bare_sizes_to, fraction_of, greatest_size, interesting_fractions,
    neighbours, normal_size, numbers_of, outcome, outcome_in_large, pair_of, some_numbers, some_of, worth_of,
)
from things import check_any_value, variants

SMALL, TENS = (2, 3, -2, 1), (10, 2, -2, 0)
OPPOSITE_WAY = {"even": "even", "away": "away", "zero": "zero", "up": "down", "down": "up"}


def opposite(told):
    value, flags = told
    return ((value[0], 1 - value[1]) + value[2:], flags)


class InSmallFormats(unittest.TestCase):
    def test_fractions_on_and_between_all_numbers(self):
        for form in SMALL_FORMATS:
            for size in interesting_fractions(form):
                for x in (size, -size):
                    for way in WAYS:
                        for s in (0, 1):
                            told = rounded(form, way, pair_of(x), s)
                            self.assertEqual(told, outcome(form, way, x, s), (form, way, x, s))
                            self.assertIs(is_outcome(form, told), True)

    def test_neighbours(self):
        for form in SMALL_FORMATS:
            for size in interesting_fractions(form)[1:]:
                for x in (size, -size):
                    low, high = neighbours(form, x)
                    self.assertEqual(below(form, pair_of(x)), low, (form, x))
                    self.assertEqual(above(form, pair_of(x)), high, (form, x))
            for told in (below(form, (0, 1)), above(form, (0, 1))):
                self.assertEqual(told, ("num", 0, 0, form[2]))

    def test_a_number_is_rounded_to_itself(self):
        for form in SMALL_FORMATS:
            for number in numbers_of(form):
                x = pair_of(worth_of(form, number))
                for way in WAYS:
                    self.assertEqual(rounded(form, way, x, number[1]), (number, ()))
                if x != (0, 1):
                    self.assertEqual([below(form, x), above(form, x)], [number, number])

    def test_it_never_falls(self):
        for form in SMALL_FORMATS:
            sizes = interesting_fractions(form)
            for way in WAYS:
                last = None
                for x in [-size for size in sizes[::-1]] + sizes:
                    value = rounded(form, way, pair_of(x), 0)[0]
                    if value[0] == "inf":
                        height = greatest_size(form) * (2 if value[1] == 0 else -2)
                    else:
                        height = worth_of(form, value)
                    self.assertTrue(last is None or last <= height)
                    last = height

    def test_the_opposite_of_the_opposite(self):
        for form in SMALL_FORMATS:
            for x in interesting_fractions(form)[1:]:
                for way in WAYS:
                    told = rounded(form, way, pair_of(x), 0)
                    other = rounded(form, OPPOSITE_WAY[way], pair_of(-x), 0)
                    self.assertEqual(told, opposite(other))

    def test_zero_has_the_sign_that_is_told(self):
        for form in SMALL_FORMATS + LARGE_FORMATS:
            for way in WAYS:
                for s in (0, 1):
                    self.assertEqual(rounded(form, way, (0, 1), s), (("num", s, 0, form[2]), ()))


class AtTheEdges(unittest.TestCase):
    def flags_of(self, form, x):
        return {way: rounded(form, way, pair_of(x), 0)[1] for way in WAYS}

    def test_just_where_it_goes_over(self):
        rest = ("inexact",)
        gone = ("inexact", "over")
        for form in SMALL_FORMATS + LARGE_FORMATS:
            base, digits, low, high = form
            top, unit = greatest_size(form), Fraction(base) ** high
            little = unit / 10 ** 50
            for x, over in (
                (top, None), (top + little, ("up",)), (top + unit / 2 - little, ("up",)),
                (top + unit / 2, ("even", "away", "up")), (top + unit - little, ("even", "away", "up")),
                (top + unit, WAYS), (top * 10 ** 9, WAYS), (top * base ** 3000, WAYS),
            ):
                expected = {way: () if over is None else gone if way in over else rest for way in WAYS}
                self.assertEqual(self.flags_of(form, x), expected, (form, x))
                mirrored = {way: expected[OPPOSITE_WAY[way]] for way in WAYS}
                self.assertEqual(self.flags_of(form, -x), mirrored, (form, -x))

    def test_what_comes_of_what_goes_over(self):
        for form in SMALL_FORMATS + LARGE_FORMATS:
            base, digits, low, high = form
            for s in (0, 1):
                inf, great = ("inf", s), ("num", s, base ** digits - 1, high)
                x = pair_of((base ** digits) * Fraction(base) ** high * (-1 if s else 1))
                self.assertEqual(
                    [rounded(form, way, x, 1 - s)[0] for way in WAYS],
                    [inf, inf, inf if s == 0 else great, inf if s == 1 else great, great],
                )

    def test_tiny_is_told_ahead_of_rounding(self):
        for form in SMALL_FORMATS + LARGE_FORMATS:
            base, digits, low, high = form
            normal, unit = normal_size(form), Fraction(base) ** low
            little = unit / 10 ** 50
            for x, flags in (
                (normal, ()), (normal - little, ("inexact", "tiny")), (normal + little, ("inexact",)),
                (normal - unit / 2, ("inexact", "tiny")), (normal - unit, ()), (unit, ()),
                (unit + little, ("inexact", "tiny")), (little, ("inexact", "tiny")),
                (unit / base ** 3000, ("inexact", "tiny")),
            ):
                self.assertEqual(self.flags_of(form, x), {way: flags for way in WAYS}, (form, x))
                self.assertEqual(self.flags_of(form, -x), {way: flags for way in WAYS}, (form, -x))
            self.assertEqual(rounded(form, "up", pair_of(normal - little), 0)[0],
                             ("num", 0, base ** (digits - 1), low))

    def test_what_becomes_a_zero_keeps_its_sign(self):
        for form in SMALL_FORMATS + LARGE_FORMATS:
            little = Fraction(form[0]) ** form[2] / 3
            for s in (0, 1):
                self.assertEqual(rounded(form, "even", pair_of(little), s)[0], ("num", 0, 0, form[2]))
                self.assertEqual(rounded(form, "even", pair_of(-little), s)[0], ("num", 1, 0, form[2]))
                self.assertEqual(rounded(form, "up", pair_of(-little), s)[0], ("num", 1, 0, form[2]))
                self.assertEqual(rounded(form, "down", pair_of(little), s)[0], ("num", 0, 0, form[2]))
            self.assertEqual(below(form, pair_of(little)), ("num", 0, 0, form[2]))
            self.assertEqual(above(form, pair_of(-little)), ("num", 1, 0, form[2]))

    def test_neighbours_above_high(self):
        for form in SMALL_FORMATS + LARGE_FORMATS:
            base, digits, low, high = form
            top, full = base ** digits - 1, base ** (digits - 1)
            x = pair_of(greatest_size(form) + Fraction(base) ** high / 7)
            self.assertEqual(below(form, x), ("num", 0, top, high))
            self.assertEqual(above(form, x), ("num", 0, full, high + 1))
            x = pair_of(-greatest_size(form) * base ** 700 - Fraction(base) ** (high + 699))
            self.assertEqual(above(form, x), ("num", 1, top, high + 700))
            self.assertEqual(below(form, x), ("num", 1, full, high + 701))

    def test_large_formats(self):
        for form in LARGE_FORMATS:
            numbers = some_numbers(form, 40, 14)
            for one, other in zip(numbers, numbers[1:]):
                unit = Fraction(form[0]) ** one[3]
                for x in (worth_of(form, one) + unit / 2, worth_of(form, one) - unit / 2 + unit / 10 ** 70,
                          worth_of(form, one) + worth_of(form, other), worth_of(form, one) / 7):
                    for way in WAYS:
                        told = rounded(form, way, pair_of(x), 1)
                        self.assertEqual(told, outcome_in_large(form, way, x, 1), (form, way, x))


class Roots(unittest.TestCase):
    def test_of_zero(self):
        for form in SMALL_FORMATS + LARGE_FORMATS:
            for way in WAYS:
                self.assertEqual(rounded_root(form, way, (0, 1)), (("num", 0, 0, form[2]), ()))

    def test_of_squares_and_of_what_is_next_to_them(self):
        for form in SMALL_FORMATS:
            for root in some_of(interesting_fractions(form)[1:], 300):
                little = root / 10 ** 20
                for way in WAYS:
                    self.assertEqual(rounded_root(form, way, pair_of(root ** 2)), outcome(form, way, root, 0))
                    for off, near in ((little * root, root + little / 4), (-little * root, root - little / 4)):
                        told = rounded_root(form, way, pair_of(root ** 2 + off))
                        self.assertEqual(told, outcome(form, way, near, 0), (form, way, root, off))

    def test_of_what_is_no_square(self):
        for form in SMALL_FORMATS:
            for n in range(1, 60):
                for d in (1, 2, 3, 5, 7, 49, 10 ** 6):
                    # A fraction that is so near the root that no NUMBER and no half-way point is between.
                    near = Fraction(isqrt(n * 10 ** 80 // d), 10 ** 40)
                    if near ** 2 != Fraction(n, d):
                        near += Fraction(1, 2 * 10 ** 40)
                    for way in WAYS:
                        told = rounded_root(form, way, pair_of(Fraction(n, d)))
                        self.assertEqual(told, outcome(form, way, near, 0), (form, way, n, d))

    def test_in_large_formats(self):
        for form in LARGE_FORMATS:
            for number in some_numbers(form, 40, 15):
                root = abs(worth_of(form, number))
                unit = Fraction(form[0]) ** number[3]
                for x in (root, root + unit / 2, root + unit / 10 ** 80):
                    for way in WAYS:
                        told = rounded_root(form, way, pair_of(x ** 2))
                        self.assertEqual(told, outcome_in_large(form, way, x, 0))

    def test_what_goes_over_and_what_is_tiny(self):
        low = (10, 2, -6, -5)
        self.assertEqual(rounded_root(low, "even", (1, 4)), (("inf", 0), ("inexact", "over")))
        self.assertEqual(rounded_root(low, "down", (1, 4)), (("num", 0, 99, -5), ("inexact", "over")))
        self.assertEqual(rounded_root((10, 2, 0, 3), "up", (2, 1)), (("num", 0, 2, 0), ("inexact", "tiny")))
        self.assertEqual(rounded_root((10, 2, 0, 3), "up", (99, 1)), (("num", 0, 10, 0), ("inexact", "tiny")))
        self.assertEqual(rounded_root((10, 2, 0, 3), "up", (81, 1)), (("num", 0, 9, 0), ()))


class Judging(unittest.TestCase):
    def test_just_the_outcome_is_taken(self):
        for form, x in ((SMALL, Fraction(1, 3)), (SMALL, Fraction(5, 2)), (SMALL, Fraction(-20)), (TENS, Fraction(0)),
                        (SMALL, Fraction(1, 4)), (TENS, Fraction(-1)), (TENS, Fraction(999, 1000))):
            for way in WAYS:
                for s in (0, 1):
                    told = outcome(form, way, x, s)
                    self.assertIs(is_rounded(form, way, pair_of(x), s, told), True)
                    for thing in variants(told):
                        self.assertIs(is_rounded(form, way, pair_of(x), s, thing), False, (told, thing))

    def test_any_value(self):
        extra = variants(outcome(SMALL, "up", Fraction(1, 3), 0))
        check_any_value(self, lambda thing: is_rounded(SMALL, "up", (1, 3), 0, thing), extra)
        check_any_value(self, lambda thing: is_rounded(SMALL, "up", (0, 1), 1, thing), extra)

    def test_other_forms_of_the_same(self):
        told = (("num", 1, 0, -2), ())
        self.assertIs(is_rounded(SMALL, "up", (0, 1), 1, told), True)
        for thing in ((("num", True, 0, -2), ()), (("num", 1, False, -2), ()), (("num", 1, 0, -2.0), ()),
                      (["num", 1, 0, -2], ()), (("num", 1, 0, -2), []), [("num", 1, 0, -2), ()],
                      (("num", 0, 0, -2), ()), (("num", 1, 0, -1), ()), (("num", 1, 0, -2), ("inexact",))):
            self.assertIs(is_rounded(SMALL, "up", (0, 1), 1, thing), False, thing)
        self.assertIs(is_rounded(SMALL, "even", (2, 1), 0, (("num", 0, 4, -1), ())), True)
        for thing in ((("num", 0, 2, 0), ()), (("num", 0, 8, -2), ()), (("num", 0, 4, -1), ("over",)), (("nan",), ())):
            self.assertIs(is_rounded(SMALL, "even", (2, 1), 0, thing), False, thing)

    def test_wrong_flags(self):
        value = ("num", 0, 2, -2)
        for flags in ((), ("inexact",), ("tiny",), ("tiny", "inexact"), ("inexact", "over", "tiny"), ["inexact", "tiny"],
                      ("inexact", "tiny", "tiny"), None, ("by", "inexact", "tiny")):
            self.assertIs(is_rounded(SMALL, "up", (1, 3), 0, (value, flags)), False, flags)
        self.assertIs(is_rounded(SMALL, "up", (1, 3), 0, (value, ("inexact", "tiny"))), True)


class Joined(unittest.TestCase):
    def test_lists_and_tuples(self):
        words = ("by", "inexact", "invalid", "over", "tiny")
        sets = [tuple([word for at, word in enumerate(words) if mask >> at & 1]) for mask in range(32)]
        for one in sets:
            for other in sets:
                outcomes = [(("nan",), one), (None, other), (0, one)]
                expected = tuple(sorted(set(one + other)))
                self.assertEqual(joined(outcomes), expected)
                self.assertEqual(joined(tuple(outcomes[::-1])), expected)
        self.assertEqual([joined([]), joined(()), joined([(1, ())]), joined(((1, words),))], [(), (), (), words])

    def test_what_is_handed_in_stays(self):
        outcomes = [(0, ("over",)), (1, ("by",))]
        self.assertEqual([joined(outcomes), joined(outcomes)], [("by", "over")] * 2)
        self.assertEqual(outcomes, [(0, ("over",)), (1, ("by",))])


class Errors(unittest.TestCase):
    def test_unit_is_the_distance_of_the_neighbours(self):
        for form in SMALL_FORMATS:
            sizes = bare_sizes_to(form, form[3] + 2)
            for one, other in zip(sizes, sizes[1:]):
                for x in (one, (one + other) / 2, other - (other - one) / 10 ** 9):
                    told = unit_at(form, pair_of(x))
                    self.assertIs(is_fraction(told), True)
                    self.assertEqual(fraction_of(told), other - one, (form, x))

    def test_most_error(self):
        for form in SMALL_FORMATS:
            for way in WAYS:
                over, worst = False, Fraction(0)
                for x in interesting_fractions(form):
                    told = most_error(form, way, pair_of(x))
                    for signed in (x, -x):
                        value, flags = outcome(form, way, signed, 0)
                        over = over or "over" in flags
                        if not over:
                            worst = max(worst, abs(worth_of(form, value) - signed))
                    if over:
                        self.assertIsNone(told, (form, way, x))
                    else:
                        unit = fraction_of(unit_at(form, pair_of(x)))
                        self.assertEqual(fraction_of(told), unit / 2 if way in ("even", "away") else unit)
                        self.assertLessEqual(worst, fraction_of(told))

    def test_just_where_something_goes_over(self):
        for form in SMALL_FORMATS + LARGE_FORMATS:
            base, digits, low, high = form
            top, unit = greatest_size(form), Fraction(base) ** high
            little = unit / 10 ** 40
            for x, ways in ((top, WAYS), (top + little, ("even", "away", "zero")),
                            (top + unit / 2 - little, ("even", "away", "zero")), (top + unit / 2, ("zero",)),
                            (top + unit - little, ("zero",)), (top + unit, ()), (top * base ** 9, ())):
                told = [way for way in WAYS if most_error(form, way, pair_of(x)) is not None]
                self.assertEqual(told, [way for way in WAYS if way in ways], (form, x))

    def test_of_zero(self):
        for form in SMALL_FORMATS + LARGE_FORMATS:
            unit = Fraction(form[0]) ** form[2]
            self.assertEqual(unit_at(form, (0, 1)), pair_of(unit))
            self.assertEqual([most_error(form, way, (0, 1)) for way in WAYS],
                             [pair_of(unit / 2)] * 2 + [pair_of(unit)] * 3)


if __name__ == "__main__":
    unittest.main()
