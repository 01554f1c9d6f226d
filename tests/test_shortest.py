"""[6], [25]: the shortest DECIMAL that is read back."""

import unittest
from fractions import Fraction

from nearestheld.forms import is_fraction
from nearestheld.reader import reads_back
from nearestheld.shortest import fewer_paper, is_fewer_paper, is_shortest, shortest, stretch_of
from nearestheld.words import digits_many, is_decimal, trimmed
from reference import (
    LARGE_FORMATS, LARGEST_FORMATS, SMALL_FORMATS, decimal_fraction, edges_of, fraction_of, numbers_of, outcome,
    outcome_in_large, place_of, shortest_by_going_through, some_numbers, some_of, stretch, worth_of,
)
from things import check_any_value, variants

SMALL, TENS = (2, 3, -2, 1), (10, 2, -2, 0)
FORMATS = SMALL_FORMATS + ((2, 4, -1, 9), (20, 2, -1, 0), (6, 3, -4, -3), (4, 2, -9, -7), (10, 2, 0, 5), (36, 2, 2, 3))
FAR_FORMATS = LARGE_FORMATS + LARGEST_FORMATS
HUGE = 10 ** 200 - 1


def sizes_of(form, many):
    """So many NUMBERS with the SIGN 0 that are no zero."""
    return some_of([number for number in numbers_of(form) if number[1] == 0 and number[2] > 0], many)


def is_paper(stretched, q, e):
    """Whether (q, e) is a FEWER PAPER, by its words alone."""
    low, high, are_in = stretched
    under, above = q * Fraction(10) ** e, (q + 1) * Fraction(10) ** e
    if are_in:
        return under < low and high < above
    return under <= low and high <= above


class Stretches(unittest.TestCase):
    def test_small_formats(self):
        for form in FORMATS:
            for number in sizes_of(form, 10 ** 4):
                low, high, are_in = stretch(form, number)
                for s in (0, 1):
                    told = stretch_of(form, ("num", s) + number[2:])
                    self.assertEqual([is_fraction(told[0]), is_fraction(told[1]), told[2].__class__], [True, True, bool])
                    self.assertEqual((fraction_of(told[0]), fraction_of(told[1]), told[2]), (low, high, are_in))
                self.assertIs(are_in, number[2] % 2 == 0)

    def test_what_is_in_it_is_rounded_to_it(self):
        for form in FORMATS + FAR_FORMATS:
            for number in edges_of(form):
                low, high, are_in = stretch_of(form, number)
                low, high = fraction_of(low), fraction_of(high)
                little = (high - low) / 10 ** 9
                for x, expected in ((low, are_in), (high, are_in), (low + little, True), (high - little, True),
                                    (low - little, False), (high + little, False)):
                    value = outcome_in_large(form, "even", x, 0)[0]
                    self.assertIs(value == number, expected, (form, number, x))

    def test_at_the_edges(self):
        for form in FORMATS + FAR_FORMATS:
            base, digits, low, high = form
            unit, full, top = Fraction(base) ** low, base ** (digits - 1), base ** digits - 1
            for c, start, end in ((1, Fraction(1, 2), Fraction(3, 2)), (full, full - Fraction(1, 2), full + Fraction(1, 2)),
                                  (top, top - Fraction(1, 2), top + Fraction(1, 2))):
                told = stretch_of(form, ("num", 0, c, low))
                self.assertEqual([fraction_of(told[0]), fraction_of(told[1])], [start * unit, end * unit])
                self.assertIs(told[2], c % 2 == 0)
            if low < high:
                told = stretch_of(form, ("num", 1, full, low + 1))
                self.assertEqual(fraction_of(told[0]), (full * base - Fraction(1, 2)) * unit)
                self.assertEqual(fraction_of(told[1]), (full + Fraction(1, 2)) * unit * base)
                self.assertIs(told[2], True)
            # What goes OVER is in no STRETCH: the upper end of GREATEST is open.
            self.assertIs(stretch_of(form, ("num", 0, top, high))[2], False)


class Shortest(unittest.TestCase):
    def test_against_going_through(self):
        for form in FORMATS:
            for number in sizes_of(form, 400):
                expected = shortest_by_going_through(form, number)
                self.assertEqual(shortest(form, number), expected, (form, number))
                told = shortest(form, ("num", 1) + number[2:])
                self.assertEqual(told, (1,) + expected[1:])

    def test_read_back_and_trimmed(self):
        for form in FORMATS + FAR_FORMATS:
            for number in numbers_of(form) if form in FORMATS else some_numbers(form, 60, 27) + edges_of(form):
                told = shortest(form, number)
                self.assertIs(is_decimal(told), True)
                self.assertEqual(trimmed(told), told)
                self.assertIs(reads_back(form, told, number), True)

    def test_no_nearer_and_no_shorter_one_in_large_formats(self):
        for form in FAR_FORMATS:
            for number in some_numbers(form, 40, 28) + edges_of(form):
                if number[2] == 0:
                    continue
                s, c, e = shortest(form, number)
                size = abs(worth_of(form, number))
                off = abs(c * Fraction(10) ** e - size)
                for near in (c - 1, c + 1):
                    if reads_back(form, (s, near, e), number) and digits_many((s, near, e)) <= digits_many((s, c, e)):
                        other = abs(near * Fraction(10) ** e - size)
                        self.assertTrue(other > off or (other == off and near > c), (form, number))
                # What has a digit less is next to the size, from below or from above.
                if c >= 10:
                    place = place_of(size) - (digits_many((s, c, e)) - 2)
                    below = int(size / Fraction(10) ** place)
                    for near in (below, below + 1):
                        self.assertIs(reads_back(form, (s, near, place), number), False, (form, number))

    def test_of_two_equally_near_the_lesser_size(self):
        for form, number, expected in (
            (SMALL, ("num", 0, 1, -2), (0, 2, -1)), (SMALL, ("num", 1, 1, -2), (1, 2, -1)), (SMALL, ("num", 0, 3, -2), (0, 7, -1)),
            ((2, 2, -3, -3), ("num", 0, 2, -3), (0, 2, -1)), ((4, 2, -1, -1), ("num", 0, 3, -1), (0, 7, -1)),
        ):
            self.assertEqual(shortest_by_going_through(form, number), expected)
            self.assertEqual(shortest(form, number), expected)
        ties = 0
        for form in FORMATS:
            for number in sizes_of(form, 200):
                s, c, e = shortest(form, number)
                size = worth_of(form, number)
                other = 2 * size - decimal_fraction((0, c, e))
                mirrored = (0, int(other * 10 ** 9), -9)
                if other > size and decimal_fraction(mirrored) == other and reads_back(form, mirrored, number):
                    ties += digits_many(mirrored) == digits_many((0, c, e))
        self.assertGreater(ties, 5)

    def test_where_a_power_of_ten_is_in_the_stretch(self):
        for form, number, expected in (
            ((2, 2, 0, 3), ("num", 0, 2, 2), (0, 8, 0)), ((2, 2, 0, 3), ("num", 0, 3, 2), (0, 12, 0)),
            ((36, 2, -1, -1), ("num", 0, 36, -1), (0, 1, 0)), ((2, 3, 0, 9), ("num", 0, 6, 4), (0, 1, 2)),
            ((2, 2, 0, 9), ("num", 0, 3, 5), (0, 1, 2)), ((10, 2, 0, 5), ("num", 0, 10, 5), (0, 1, 6)),
            ((10, 2, 0, 5), ("num", 0, 1, 0), (0, 1, 0)), ((2, 2, -9, 0), ("num", 0, 3, -5), (0, 9, -2)),
        ):
            self.assertEqual(shortest_by_going_through(form, number), expected, (form, number))
            self.assertEqual(shortest(form, number), expected)

    def test_zeros(self):
        for form in FORMATS + FAR_FORMATS:
            for s in (0, 1):
                self.assertEqual(shortest(form, ("num", s, 0, form[2])), (s, 0, 0))

    def test_just_this_one_is_taken(self):
        for form, number in ((SMALL, ("num", 0, 1, -2)), (SMALL, ("num", 1, 7, 1)), (TENS, ("num", 1, 0, -2)),
                             (SMALL, ("num", 0, 0, -2)), ((2, 11, -24, 5), ("num", 0, 1907, 3)), (TENS, ("num", 0, 10, 0))):
            told = shortest(form, number)
            self.assertIs(is_shortest(form, number, told), True)
            for thing in variants(told) + [(told[0], told[1] * 10, told[2] - 1), (told[0], told[1] + 1, told[2])]:
                self.assertIs(is_shortest(form, number, thing), False, (number, thing))
        self.assertIs(is_shortest(SMALL, ("num", 0, 1, -2), (0, 3, -1)), False)
        self.assertIs(is_shortest(SMALL, ("num", 0, 1, -2), (False, 2, -1)), False)
        self.assertIs(is_shortest(TENS, ("num", 1, 0, -2), (True, 0, 0)), False)
        self.assertIs(is_shortest(TENS, ("num", 1, 0, -2), (1, 0, 1)), False)

    def test_any_value(self):
        for number in (("num", 0, 1, -2), ("num", 1, 0, -2)):
            check_any_value(self, lambda thing: is_shortest(SMALL, number, thing), variants(shortest(SMALL, number)))


class FewerPapers(unittest.TestCase):
    def test_against_going_through(self):
        for form in FORMATS:
            for number in sizes_of(form, 60):
                stretched = stretch(form, number)
                size = worth_of(form, number)
                # No q but this one can do.
                there_is = [e for e in range(-12, 12) if is_paper(stretched, size // Fraction(10) ** e, e)]
                self.assertEqual(there_is, list(range(there_is[0], 12)))
                expected = (int(size // Fraction(10) ** there_is[0]), there_is[0])
                for s in (0, 1):
                    signed = ("num", s) + number[2:]
                    self.assertEqual(fewer_paper(form, signed), expected, (form, number))
                for e in range(-9, 9):
                    q = int(size // Fraction(10) ** e)
                    for near in (q - 1, q, q + 1):
                        told = is_fewer_paper(form, number, (near, e))
                        self.assertIs(told, near >= 0 and is_paper(stretched, near, e), (form, number, near, e))

    def test_large_formats(self):
        for form in FAR_FORMATS:
            for number in [number for number in some_numbers(form, 30, 29) if number[2] > 0] + edges_of(form):
                low, high, are_in = stretch_of(form, number)
                stretched = (fraction_of(low), fraction_of(high), are_in)
                q, e = fewer_paper(form, number)
                self.assertIs(is_paper(stretched, q, e), True)
                size = abs(worth_of(form, number))
                self.assertIs(is_paper(stretched, size // Fraction(10) ** (e - 1), e - 1), False)
                for paper, expected in (((q, e), True), ((q + 1, e), False), ((q // 10, e + 1), True), ((0, 5000), True),
                                        ((int(size / Fraction(10) ** (e - 1)), e - 1), False), ((1, 5000), False)):
                    self.assertIs(is_fewer_paper(form, number, paper), expected, (form, number, paper))

    def test_it_goes_with_the_shortest(self):
        # Where no power of ten is in the STRETCH, the shortest has the e below that of the paper.
        for form in FORMATS:
            for number in sizes_of(form, 60):
                low, high, are_in = stretch(form, number)
                e = fewer_paper(form, number)[1]
                if place_of(low) == place_of(high) and low != Fraction(10) ** place_of(low):
                    self.assertEqual(shortest(form, number)[2], e - 1)
                else:
                    self.assertIn(shortest(form, number)[2], (e - 1, e - 2))

    def test_e_far_beyond(self):
        for form in FORMATS[:3] + FAR_FORMATS:
            for number in (("num", 0, 1, form[2]), ("num", 1, form[0] ** form[1] - 1, form[3])):
                for far in (10 ** 6, HUGE):
                    for paper, expected in (((0, far), True), ((1, far), False), ((HUGE, far), False), ((0, -far), False),
                                            ((1, -far), False), ((HUGE, -far), False), ((-1, far), False)):
                        self.assertIs(is_fewer_paper(form, number, paper), expected)

    def test_a_zero_has_none(self):
        for s in (0, 1):
            for paper in ((0, 5), (0, 0), (1, 1), None):
                self.assertIs(is_fewer_paper(SMALL, ("num", s, 0, -2), paper), False)

    def test_any_value(self):
        half, number = (2, 11, -24, 5), ("num", 0, 1907, 3)
        extra = variants((1525, 1)) + variants((0, 7)) + variants((152, 2))
        check_any_value(self, lambda thing: is_fewer_paper(half, number, thing), extra)
        check_any_value(self, lambda thing: is_fewer_paper(SMALL, ("num", 0, 7, 1), thing), extra)
        for thing in ((False, 7), (0, True), (0, 7.0), ("0", 7), [0, 7], (0, 7, 0), (0,), (-1, 7), ((0, 7),)):
            self.assertIs(is_fewer_paper(half, number, thing), False, thing)
        self.assertIs(is_fewer_paper(half, number, (0, 7)), True)
        self.assertIs(is_fewer_paper(SMALL, ("num", 0, 1, -2), (0, True)), False)
        self.assertIs(is_fewer_paper(SMALL, ("num", 0, 1, -2), (0, 1)), True)


class Witnesses(unittest.TestCase):
    def test_outcome_agrees_with_reads_back(self):
        for form in FORMATS[:6]:
            for number in sizes_of(form, 20):
                decimal = shortest(form, number)
                self.assertEqual(outcome(form, "even", decimal_fraction(decimal), 0)[0], number)


if __name__ == "__main__":
    unittest.main()
