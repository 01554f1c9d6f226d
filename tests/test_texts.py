"""[6], [27]: DECIMALS and VALUES as texts."""

import unittest
from fractions import Fraction
from random import Random

from nearestheld.reader import read
from nearestheld.shortest import shortest
from nearestheld.texts import marked_text, plain_text, shortest_text
from nearestheld.words import decimal_of
from reference import (
    LARGE_FORMATS, LARGEST_FORMATS, SMALL_FORMATS, decimal_fraction, edges_of, numbers_of, some_numbers, some_of, values_of,
)

DOUBLE = (2, 53, -1074, 971)
FORMATS = SMALL_FORMATS + ((20, 2, -1, 0), (6, 3, -4, -3), (10, 2, 18, 24), (10, 2, -8, -2), (4, 2, -12, -9))
FAR_FORMATS = LARGE_FORMATS + LARGEST_FORMATS


class Plain(unittest.TestCase):
    def test_each_kind_of_e(self):
        for c, e, text in (
            (0, 0, "0"), (0, 5, "0"), (0, 5000, "0"), (0, -1, "0.0"), (0, -2, "0.00"), (7, 0, "7"), (7, 3, "7000"), (70, 1, "700"),
            (125, -1, "12.5"), (125, -2, "1.25"), (125, -3, "0.125"), (125, -4, "0.0125"), (125, -6, "0.000125"),
            (5, -1, "0.5"), (50, -1, "5.0"), (100, -2, "1.00"), (100, -3, "0.100"), (1, -1, "0.1"), (12, -1, "1.2"),
        ):
            self.assertEqual(plain_text((0, c, e)), text)
            self.assertEqual(plain_text((1, c, e)), "-" + text)

    def test_the_far_ends(self):
        self.assertEqual(plain_text((1, 12, 5000)), "-12" + "0" * 5000)
        self.assertEqual(plain_text((0, 12, -5000)), "0." + "0" * 4998 + "12")
        self.assertEqual(plain_text((1, 0, -5000)), "-0." + "0" * 5000)
        self.assertEqual(plain_text((0, 10 ** 4199, 1)), "1" + "0" * 4200)
        self.assertEqual(plain_text((0, 10 ** 4199, -4199)), "1." + "0" * 4199)
        self.assertEqual(plain_text((0, 10 ** 4200 - 1, -4200)), "0." + "9" * 4200)
        self.assertEqual(plain_text((0, 10 ** 6000 - 1, -1)), "9" * 5999 + ".9")

    def test_what_it_shows(self):
        random = Random(27)
        for _ in range(400):
            decimal = (random.randrange(2), random.randrange(10 ** random.randint(1, 40)), random.randint(-45, 45))
            for text in (plain_text(decimal), marked_text(decimal)):
                s, c, e = decimal_of(text)
                self.assertEqual((s, decimal_fraction((s, c, e))), (decimal[0], decimal_fraction(decimal)))
            text = plain_text(decimal)
            self.assertNotIn("e", text)
            self.assertEqual(len(text.partition(".")[2]), max(0, -decimal[2]))
            self.assertRegex(text, r"\A-?(0|[1-9][0-9]*)(\.[0-9]+)?\Z")
            self.assertEqual(text.startswith("-"), decimal[0] == 1)
            self.assertRegex(marked_text(decimal), r"\A-?[0-9](\.[0-9]+)?e(0|-?[1-9][0-9]*)\Z")


class Marked(unittest.TestCase):
    def test_each_kind(self):
        for c, e, text in (
            (0, 0, "0e0"), (0, 5, "0e5"), (0, -5, "0e-5"), (7, 0, "7e0"), (7, 3, "7e3"), (7, -3, "7e-3"), (12, 0, "1.2e1"),
            (12, -1, "1.2e0"), (12, -2, "1.2e-1"), (125, -4, "1.25e-2"), (125, -2, "1.25e0"), (125, 2, "1.25e4"), (100, -2, "1.00e0"),
            (10, 9, "1.0e10"), (123456, -15, "1.23456e-10"),
        ):
            self.assertEqual(marked_text((0, c, e)), text)
            self.assertEqual(marked_text((1, c, e)), "-" + text)

    def test_the_far_ends(self):
        self.assertEqual(marked_text((1, 3, 5000)), "-3e5000")
        self.assertEqual(marked_text((0, 3, -5000)), "3e-5000")
        self.assertEqual(marked_text((0, 0, -5000)), "0e-5000")
        self.assertEqual(marked_text((0, 10 ** 4199 + 5, -5000)), "1." + "0" * 4198 + "5e-801")
        self.assertEqual(marked_text((0, 10 ** 4200 - 1, 5000)), "9." + "9" * 4199 + "e9199")
        self.assertEqual(marked_text((0, 10 ** 6000 - 1, -6000)), "9." + "9" * 5999 + "e-1")


class ShortestTexts(unittest.TestCase):
    def test_infs_nans_and_zeros(self):
        for form in FORMATS + FAR_FORMATS:
            values = (("nan",), ("inf", 0), ("inf", 1), ("num", 0, 0, form[2]), ("num", 1, 0, form[2]))
            self.assertEqual([shortest_text(form, value) for value in values], ["nan", "inf", "-inf", "0", "-0"])

    def test_read_by_even_it_is_the_value_again(self):
        for form in FORMATS:
            for value in values_of(form):
                self.assertEqual(read(form, "even", shortest_text(form, value))[0], value)
        for form in FAR_FORMATS:
            for value in some_numbers(form, 40, 33) + edges_of(form):
                self.assertEqual(read(form, "even", shortest_text(form, value))[0], value)

    def test_plain_or_marked(self):
        seen = {}
        for form in FORMATS + ((10, 3, -9, 25), (2, 5, -20, 75)):
            for number in some_of(numbers_of(form), 1500):
                if number[2] > 0:
                    decimal = shortest(form, number)
                    place = decimal[2] + len(str(decimal[1]))
                    is_plain = -4 <= place <= 21
                    expected = plain_text(decimal) if is_plain else marked_text(decimal)
                    self.assertEqual(shortest_text(form, number), expected)
                    self.assertEqual("e" in expected, not is_plain)
                    seen[place] = True
        self.assertLessEqual({-6, -5, -4, -3, 0, 1, 20, 21, 22, 23}, set(seen))

    def test_at_the_bounds(self):
        form = (10, 2, -30, 30)
        for number, text in (
            (("num", 0, 10, -6), "0.00001"), (("num", 1, 12, -6), "-0.000012"), (("num", 0, 10, -7), "1e-6"), (("num", 0, 12, -7), "1.2e-6"),
            (("num", 0, 99, -7), "9.9e-6"), (("num", 0, 99, -6), "0.000099"), (("num", 0, 10, -5), "0.0001"),
            (("num", 0, 10, 19), "1" + "0" * 20), (("num", 1, 99, 19), "-99" + "0" * 19), (("num", 0, 10, 20), "1e21"),
            (("num", 1, 99, 20), "-9.9e21"), (("num", 0, 10, 18), "1" + "0" * 19), (("num", 0, 12, -1), "1.2"), (("num", 0, 50, -2), "0.5"),
        ):
            self.assertEqual(shortest_text(form, number), text)

    def test_doubles_as_other_programs_show_them(self):
        for one in (0.1, 0.37, 1e21, 1e22, 123456.789, 1e-6, 5e-324, 1.7976931348623157e308, 2.0 ** 53, 1 / 3, 1e-7, 100.0):
            exact = Fraction(one)
            number = read(DOUBLE, "even", repr(one))[0]
            self.assertEqual(number[2] * Fraction(2) ** number[3], exact)
            text = shortest_text(DOUBLE, number)
            self.assertEqual(float(text), one)
            self.assertEqual(len(text.partition("e")[0].replace(".", "").strip("0")),
                             len(repr(one).partition("e")[0].replace(".", "").strip("0")))


if __name__ == "__main__":
    unittest.main()
