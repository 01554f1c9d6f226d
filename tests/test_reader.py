"""[5], [6], [24]: texts and DECIMALS read."""

import time
import unittest
from fractions import Fraction
from random import Random

from nearestheld.errors import NoText, Wrong
from nearestheld.forms import is_format, is_number, is_outcome, is_way
from nearestheld.reader import read, read_decimal, read_own, reads_back, show_own
from reference import (
    LARGE_FORMATS, LARGEST_FORMATS, SMALL_FORMATS, WAYS, bare_sizes_to, edges_of, greatest_size, numbers_of, outcome,
    outcome_in_large, some_numbers, some_of, values_of, worth_of,
)
from things import check_wrong

SMALL, TENS, DOUBLE = (2, 3, -2, 1), (10, 2, -2, 0), (2, 53, -1074, 971)
FORMATS = SMALL_FORMATS + ((20, 2, -1, 1), (36, 2, -2, 0), (4, 3, -3, 1))
FAR_FORMATS = LARGE_FORMATS + LARGEST_FORMATS
# What is most for 10 ** 2 in the place of the base, on one side of 0.
ONE_SIDED_FORMATS = ((36, 120, 0, 1200), (36, 120, 1200, 1200), (36, 2, -1200, 0), (36, 2, -1200, -1200))
SIGNS = "0123456789abcdefghijklmnopqrstuvwxyz"


def fraction_of(decimal):
    s, c, e = decimal
    return (-c if s else c) * Fraction(10) ** e


def decimals_beside(x, places):
    """The DECIMALS with so many places next to a Fraction x above 0, below it or at it and above it."""
    c = x * 10 ** places // 1
    return [(0, int(c), -places), (0, int(c) + 1, -places)]


class ReadDecimal(unittest.TestCase):
    def check(self, form, decimal, told_by):
        exact = fraction_of(decimal)
        for way in WAYS:
            told = read_decimal(form, way, decimal)
            self.assertIs(is_outcome(form, told), True)
            self.assertEqual(told, told_by(form, way, exact, decimal[0]), (form, way, decimal))

    def test_few_digits(self):
        for form in FORMATS:
            for c in (0, 1, 2, 3, 5, 7, 9, 10, 12, 25, 37, 99, 100, 125, 1024, 99999):
                for e in (-9, -4, -3, -2, -1, 0, 1, 2, 5):
                    for s in (0, 1):
                        self.check(form, (s, c, e), outcome)

    def test_at_numbers_and_half_way(self):
        for form in ((2, 3, -2, 1), (2, 4, -6, -2), (10, 2, -1, 0), (10, 2, -4, -3), (4, 2, -1, 1)):
            sizes = bare_sizes_to(form, form[3] + 1)
            for one, other in some_of(list(zip(sizes, sizes[1:])), 30):
                for x in (other, (one + other) / 2):
                    decimal = (0, int(x * 10 ** 12), -12)
                    self.assertEqual(fraction_of(decimal), x)
                    # A digit a thousand places on decides, too.
                    c = decimal[1] * 10 ** 1000
                    for s in (0, 1):
                        for near in ((s, c, -1012), (s, c + 1, -1012), (s, c - 1, -1012), (s,) + decimal[1:]):
                            self.check(form, near, outcome)

    def test_beside_numbers_that_no_decimal_is(self):
        form = (6, 2, -2, 0)
        sizes = bare_sizes_to(form, 1)
        for one, other in some_of(list(zip(sizes, sizes[1:])), 30):
            for decimal in decimals_beside(other, 500) + decimals_beside((one + other) / 2, 500):
                self.check(form, decimal, outcome)

    def test_large_formats(self):
        for form in FAR_FORMATS + ONE_SIDED_FORMATS:
            base, digits, low, high = form
            unit = Fraction(base) ** low
            halves = [worth_of(form, number) + Fraction(base) ** number[3] / 2 for number in some_numbers(form, 5, 24)]
            for x in [abs(half) for half in halves] + [unit, unit / 2, greatest_size(form)]:
                for decimal in decimals_beside(x, 2100):
                    self.check(form, decimal, outcome_in_large)

    def test_c_of_many_digits(self):
        random = Random(24)
        for form in FAR_FORMATS[:4] + (SMALL, TENS):
            for e in (-5000, -4200, -4199, -3000, -2330, 0, 5000):
                c = random.randrange(10 ** 4199, 10 ** 4200)
                self.check(form, (e % 2, c, e), outcome_in_large)
            self.check(form, (0, 10 ** 4199, -4199), outcome_in_large)
            self.check(form, (1, 10 ** 4199 + 1, -4199), outcome_in_large)

    def test_e_far_beyond_all_bounds(self):
        begun = time.process_time()
        for form in FORMATS + FAR_FORMATS:
            base, digits, low, high = form
            top = base ** digits - 1
            for far in (6001, 10 ** 9, 10 ** 200, 10 ** 2999):
                for c in (1, 9, 10 ** 4199, 10 ** 4200 - 1):
                    for s in (0, 1):
                        inf, great, zero, least = ("inf", s), ("num", s, top, high), ("num", s, 0, low), ("num", s, 1, low)
                        outward = "down" if s else "up"
                        for way in WAYS:
                            told = inf if way in ("even", "away", outward) else great
                            self.assertEqual(read_decimal(form, way, (s, c, far)), (told, ("inexact", "over")))
                            told = least if way == outward else zero
                            self.assertEqual(read_decimal(form, way, (s, c, -far - 4200)), (told, ("inexact", "tiny")))
                            for e in (far, -far):
                                self.assertEqual(read_decimal(form, way, (s, 0, e)), (zero, ()))
        self.assertLess(time.process_time() - begun, 60)

    def test_just_where_e_is_far(self):
        # The OUTCOME is that of the exact worth wherever reading takes a nearer one for it.
        for form in ((2, 3, -2, 1), (36, 2, -1, -1), (36, 2, 3, 3), (10, 2, -4, -3), (2, 2, 0, 0)):
            for e in range(-24, 25):
                for c in (1, 9, 10, 99999, 10 ** 20):
                    self.check(form, (0, c, e), outcome_in_large)

    def test_it_never_falls(self):
        random = Random(25)
        for form in FORMATS:
            decimals = [(random.randrange(2), random.randrange(10 ** random.randint(1, 6)), random.randint(-8, 3))
                        for _ in range(150)] + [(0, 1, 10 ** 9), (1, 1, 10 ** 9), (0, 1, -10 ** 9), (1, 1, -10 ** 9)]
            near = [decimal for decimal in decimals if abs(decimal[2]) < 100]
            near.sort(key=fraction_of)
            ordered = [(1, 1, 10 ** 9)] + near + [(0, 1, 10 ** 9)]
            for way in WAYS:
                values = [read_decimal(form, way, decimal)[0] for decimal in ordered]
                heights = [worth_of(form, value) if value[0] == "num" else greatest_size(form) * (-2 if value[1] else 2)
                           for value in values]
                self.assertEqual(heights, sorted(heights))

    def test_a_number_of_tens_is_itself(self):
        for form in SMALL_FORMATS:
            if form[0] == 10:
                for number in numbers_of(form):
                    for way in WAYS:
                        self.assertEqual(read_decimal(form, way, number[1:]), (number, ()))


class Read(unittest.TestCase):
    def test_digits(self):
        for form in FORMATS[:6] + FAR_FORMATS[:2]:
            for way in WAYS:
                for text, decimal in (("1.1", (0, 11, -1)), ("-0.125", (1, 125, -3)), ("+.5e1", (0, 5, 0)), ("-0", (1, 0, 0)),
                                      ("7.", (0, 7, 0)), ("0e99999999999", (0, 0, 7)), ("-1e5", (1, 1, 5)), ("3e-2", (0, 3, -2))):
                    expected = outcome_in_large(form, way, fraction_of(decimal), decimal[0])
                    self.assertEqual(read(form, way, text), expected, (form, way, text))
                self.assertEqual(read(form, way, "1e" + "9" * 2900), read_decimal(form, way, (0, 1, 10 ** 30)))
                self.assertEqual(read(form, way, "-1e-" + "9" * 2900), read_decimal(form, way, (1, 1, -10 ** 30)))

    def test_infs_and_nan(self):
        for form in FORMATS + FAR_FORMATS:
            for way in WAYS:
                self.assertEqual([read(form, way, text) for text in ("inf", "+inf", "-inf", "nan")],
                                 [(("inf", 0), ()), (("inf", 0), ()), (("inf", 1), ()), (("nan",), ())])

    def test_zeros(self):
        for text, s in (("0", 0), ("-0", 1), ("+0.000", 0), ("-.0e5", 1), ("-0e-9999999", 1)):
            self.assertEqual(read(SMALL, "down", text), (("num", s, 0, -2), ()))

    def test_other_strings(self):
        for text in ("", " ", "-nan", "+nan", "Inf", "INF", "infinity", "--inf", "inf ", " inf", "nan\n", "1e", "e1", ".", "1 2",
                     "1\n", "0x1", "1_0", "-", "+-1", "1..2", "NaN", "infe5", "nane1", "\u0661", "a", "1e1.5", "in", "na", "i"):
            with self.assertRaises(NoText) as caught:
                read(SMALL, "even", text)
            self.assertIs(caught.exception.text, text)

    def test_wrong_arguments(self):
        check_wrong(self, lambda thing: read(thing, thing, thing), 0, is_format)
        check_wrong(self, lambda thing: read(thing, "even", "1"), 0, is_format)
        check_wrong(self, lambda thing: read(SMALL, thing, None), 1, is_way)
        check_wrong(self, lambda thing: read(SMALL, thing, "no text"), 1, is_way)
        check_wrong(self, lambda thing: read(SMALL, "up", thing), 2, lambda thing: isinstance(thing, str))


class ReadsBack(unittest.TestCase):
    def test_at_the_ends_of_what_is_rounded_to_a_number(self):
        for form in ((2, 3, -2, 1), (10, 2, -1, 0), (10, 2, -4, -3), (4, 2, -1, 1), (2, 2, 0, 0)):
            sizes = bare_sizes_to(form, form[3] + 1)
            numbers = [number for number in numbers_of(form) if number[1] == 0]
            for at, number in enumerate(numbers[1:], 1):
                for x in ((sizes[at - 1] + sizes[at]) / 2, (sizes[at] + sizes[at + 1]) / 2):
                    c = x * 10 ** 12
                    self.assertEqual(c.denominator, 1)
                    for s in (0, 1):
                        signed = ("num", s) + number[2:]
                        for off in (-1, 0, 1):
                            decimal = (s, int(c) * 10 ** 30 + off, -42)
                            value = outcome(form, "even", fraction_of(decimal), s)[0]
                            self.assertIs(reads_back(form, decimal, signed), value == signed)
                            self.assertIs(reads_back(form, (1 - s,) + decimal[1:], signed), False)

    def test_each_even_end_is_in_and_each_odd_one_is_not(self):
        for c, are_in in ((4, True), (5, False), (6, True), (7, False)):
            for x in (2 * c - 1, 2 * c + 1):
                if x != 7:
                    self.assertIs(reads_back(SMALL, (0, x * 5, -1), ("num", 0, c, 0)), are_in, (x, c))

    def test_zeros_and_far_ones(self):
        zeros = [("num", s, 0, -2) for s in (0, 1)]
        self.assertEqual([reads_back(SMALL, (s, 0, 5), zero) for s in (0, 1) for zero in zeros], [True, False, False, True])
        self.assertEqual([reads_back(SMALL, (s, 1, -10 ** 20), zero) for s in (0, 1) for zero in zeros],
                         [True, False, False, True])
        self.assertIs(reads_back(SMALL, (0, 125, -3), zeros[0]), True)
        self.assertIs(reads_back(SMALL, (0, 126, -3), zeros[0]), False)
        self.assertIs(reads_back(SMALL, (0, 1, 10 ** 20), ("num", 0, 7, 1)), False)
        self.assertIs(reads_back(SMALL, (0, 1499, -2), ("num", 0, 7, 1)), True)
        self.assertIs(reads_back(SMALL, (0, 15, 0), ("num", 0, 7, 1)), False)
        self.assertIs(reads_back(DOUBLE, (0, 37, -2), ("num", 0, 6665327448508334, -54)), True)
        self.assertIs(reads_back(DOUBLE, (0, 37, -2), ("num", 0, 6665327448508335, -54)), False)


def own_text(form, number):
    base, digits, _, _ = form
    c, signs = number[2], ""
    for _ in range(digits):
        signs = SIGNS[c % base] + signs
        c //= base
    return ("-" if number[1] else "") + signs[0] + "." + signs[1:] + "@" + str(number[3] + digits - 1)


class OwnTexts(unittest.TestCase):
    def test_all_numbers_of_small_formats(self):
        for form in FORMATS:
            for number in numbers_of(form):
                text = show_own(form, number)
                self.assertEqual(text, own_text(form, number))
                self.assertEqual(read_own(form, text), number)

    def test_large_formats(self):
        for form in FAR_FORMATS:
            for number in some_numbers(form, 30, 26) + edges_of(form):
                text = show_own(form, number)
                self.assertEqual(text, own_text(form, number))
                self.assertEqual(read_own(form, text), number)

    def test_just_the_own_texts_are_read(self):
        for form in (SMALL, TENS, (36, 2, -1, -1), (10, 2, 9, 10), (16, 3, -12, -9)):
            own = {own_text(form, number): number for number in numbers_of(form)}
            for text in some_of(list(own), 12):
                tried = [text.upper(), text + "\n", text + " ", " " + text, "+" + text, "-" + text, text.replace("@", "@+"),
                         text.replace("@", "@0"), text.replace("@-", "@-0"), text.replace(".", ""), text.replace("@", "e"),
                         text.partition("@")[0], text.replace("@", "@@"), "0" + text, text.replace(".", "0.")]
                for at in range(len(text) + 1):
                    tried.append(text[:at] + text[at + 1:])
                    for sign in "019az.@-+ ":
                        tried += [text[:at] + sign + text[at:], text[:at] + sign + text[at + 1:]]
                for other in tried:
                    if other in own:
                        self.assertEqual(read_own(form, other), own[other])
                    else:
                        self.check_no_text(form, other)

    def test_what_no_number_has(self):
        for text in ("0.11@1", "1.00@4", "1.00@-1", "0.00@1", "-0.00@1", "1.0@0", "1.000@0", "2.00@0", "1.02@0", "1.00@" + "9" * 900,
                     "1.00@-" + "9" * 900, "", "@", ".", "-", "-.@", "1.00@", "@0", "1.00", "inf", "nan", "1" * 2000 + ".0@1", "1.00@-0"):
            self.check_no_text(SMALL, text)
        self.assertEqual([read_own(SMALL, text) for text in ("1.00@0", "-0.00@0", "0.11@0", "-1.11@3")],
                         [("num", 0, 4, -2), ("num", 1, 0, -2), ("num", 0, 3, -2), ("num", 1, 7, 1)])

    def check_no_text(self, form, text):
        with self.assertRaises(NoText) as caught:
            read_own(form, text)
        self.assertIs(caught.exception.text, text)

    def test_wrong_arguments(self):
        check_wrong(self, lambda thing: read_own(thing, thing), 0, is_format)
        check_wrong(self, lambda thing: read_own(thing, "1.00@0"), 0, is_format)
        check_wrong(self, lambda thing: read_own(SMALL, thing), 1, lambda thing: isinstance(thing, str))
        with self.assertRaises(Wrong) as caught:
            read_own([2, 3, -2, 1], "no text")
        self.assertEqual(caught.exception.place, 0)

    def test_each_number_is_a_number(self):
        for form in FORMATS:
            self.assertTrue(all([is_number(form, read_own(form, own_text(form, number))) for number in values_of(form)[:-3]]))


if __name__ == "__main__":
    unittest.main()
