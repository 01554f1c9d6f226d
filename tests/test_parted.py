"""[7], [30], [31]: what ROUNDED sums and products lack."""

import unittest
from fractions import Fraction
from itertools import permutations, product
from random import Random

from nearestheld.forms import is_number
from nearestheld.parted import is_parted_sum, parted_product, parted_sum, parted_sum_of
from nearestheld.sums import dot_of, sum_of
from reference import (
    LARGE_FORMATS, LARGEST_FORMATS, SMALL_FORMATS, edges_of, numbers_of, outcome_in_large, some_numbers, some_of, worth_of,
)
from things import check_any_value, picture, variants

SMALL = (2, 3, -2, 1)
# All couples of the first ones, couples of some NUMBERS of the others.
COUPLED = ((2, 3, -2, 1), (2, 2, -3, 3), (2, 2, 0, 0), (4, 2, -1, 1), (6, 2, -1, -1), (2, 4, -6, -4))
FORMATS = COUPLED + SMALL_FORMATS + ((10, 2, 0, 0), (20, 2, -1, 0), (10, 3, -3, 3), (36, 2, 0, 1))
FAR_FORMATS = LARGE_FORMATS + LARGEST_FORMATS
GREAT, LESS, LEAST = ("num", 0, 7, 1), ("num", 1, 7, 1), ("num", 0, 1, -2)


def even(form, x):
    """The VALUE to which a Fraction is ROUNDED by "even"; of 0 the zero with the SIGN 0."""
    return outcome_in_large(form, "even", x, 0)[0]


def number_from(form, x):
    """The NUMBER with just this WORTH, of 0 the zero with the SIGN 0; None if there is none."""
    number = even(form, x)
    return number if number[0] == "num" and worth_of(form, number) == x else None


def parts_of(form, total):
    """The PARTED SUM of what has this exact sum, by the words of the document."""
    parts = []
    while total != 0:
        part = even(form, total)
        if part[0] == "inf":
            return None
        parts.append(part)
        total -= worth_of(form, part)
    return tuple(parts)


def couples():
    for form in FORMATS:
        numbers = numbers_of(form) if form in COUPLED else some_of(numbers_of(form), 40)
        for x, y in product(numbers, repeat=2):
            yield form, x, y
    for form in FAR_FORMATS:
        numbers = some_numbers(form, 12, 46) + edges_of(form)[::2]
        for x, y in product(numbers, repeat=2):
            yield form, x, y


class Two(unittest.TestCase):
    def test_sums(self):
        gone = 0
        for form, x, y in couples():
            exact = worth_of(form, x) + worth_of(form, y)
            told = parted_sum(form, x, y)
            near = sum_of(form, "even", [x, y])[0]
            if near[0] == "inf":
                gone += 1
                self.assertIsNone(told)
                continue
            self.assertEqual(told[0], near, (form, x, y))
            # There always is one.
            self.assertIs(is_number(form, told[1]), True, (form, x, y))
            self.assertEqual(worth_of(form, told[1]), exact - worth_of(form, near))
            self.assertNotEqual(told[1][1:3], (1, 0))
            self.assertEqual([told.__class__, len(told)], [tuple, 2])
        self.assertGreater(gone, 100)

    def test_products(self):
        seen = {"none": 0, "zero": 0, "rest": 0, "over": 0}
        for form, x, y in couples():
            exact = worth_of(form, x) * worth_of(form, y)
            told = parted_product(form, x, y)
            near = dot_of(form, "even", [(x, y)])[0]
            if near[0] == "inf":
                seen["over"] += 1
                self.assertIsNone(told)
                continue
            rest = number_from(form, exact - worth_of(form, near))
            self.assertEqual(told, (near, rest), (form, x, y))
            if x[3] + y[3] >= form[2]:
                self.assertIsNotNone(rest)
            seen["none" if rest is None else "zero" if rest[2] == 0 else "rest"] += 1
        self.assertGreater(min(seen.values()), 100)

    def test_zeros(self):
        for form in FORMATS + FAR_FORMATS:
            low = form[2]
            zeros, one = [("num", s, 0, low) for s in (0, 1)], ("num", 1, 1, low)
            nothing = zeros[0]
            self.assertEqual(parted_sum(form, zeros[1], zeros[1]), (zeros[1], nothing))
            self.assertEqual(parted_sum(form, zeros[1], zeros[0]), (zeros[0], nothing))
            self.assertEqual(parted_sum(form, one, ("num", 0, 1, low)), (zeros[0], nothing))
            self.assertEqual(parted_sum(form, one, zeros[1]), (one, nothing))
            self.assertEqual(parted_product(form, zeros[0], one), (zeros[1], nothing))
            self.assertEqual(parted_product(form, zeros[1], one), (zeros[0], nothing))

    def test_what_goes_over(self):
        self.assertIsNone(parted_sum(SMALL, GREAT, ("num", 0, 4, -2)))
        self.assertIsNone(parted_sum(SMALL, LESS, ("num", 1, 4, -2)))
        self.assertEqual(parted_sum(SMALL, GREAT, ("num", 0, 3, -2)), (GREAT, ("num", 0, 3, -2)))
        self.assertIsNone(parted_product(SMALL, GREAT, ("num", 1, 5, -2)))
        self.assertEqual(parted_product(SMALL, GREAT, ("num", 1, 4, -2)), (LESS, ("num", 0, 0, -2)))


class Many(unittest.TestCase):
    def check(self, form, values):
        exact = sum([worth_of(form, value) for value in values], Fraction(0))
        told = parted_sum_of(form, values)
        self.assertEqual(told, parts_of(form, exact))
        if told is not None:
            self.assertIs(told.__class__, tuple)
            self.assertEqual(sum([worth_of(form, part) for part in told], Fraction(0)), exact)
            for at, part in enumerate(told):
                self.assertIs(is_number(form, part), True)
                self.assertNotEqual(part[2], 0)
                self.assertEqual(part, even(form, sum([worth_of(form, other) for other in told[at:]])))
            self.assertIs(is_parted_sum(form, values, told), True)
        return told

    def test_of_none_and_of_zeros(self):
        for form in FORMATS + FAR_FORMATS:
            zeros = [("num", s, 0, form[2]) for s in (0, 1)]
            for values in ([], (), zeros, zeros[1:], tuple(zeros * 5)):
                self.assertEqual(parted_sum_of(form, values), ())
                self.assertIs(is_parted_sum(form, values, ()), True)

    def test_of_one_it_is_this_one(self):
        for form in FORMATS:
            for number in numbers_of(form):
                if number[2] > 0:
                    self.assertEqual(parted_sum_of(form, [number]), (number,))

    def test_of_two_it_is_the_parted_sum(self):
        for form in COUPLED[:3]:
            for x, y in product(numbers_of(form), repeat=2):
                two = parted_sum(form, x, y)
                expected = None if two is None else tuple([part for part in two if part[2] > 0])
                self.assertEqual(parted_sum_of(form, [x, y]), expected)

    def test_some(self):
        lengths = {}
        for form in FORMATS + FAR_FORMATS:
            numbers = numbers_of(form) if form in FORMATS else some_numbers(form, 60, 47)
            for many in (2, 3, 5, 20, 60):
                for seed in range(6):
                    told = self.check(form, Random(seed).choices(numbers, k=many))
                    lengths[None if told is None else len(told)] = True
        self.assertLessEqual({None, 1, 2, 3, 4}, set(lengths))

    def test_the_same_for_every_order(self):
        values = [("num", 0, 5, 1), ("num", 0, 3, -2), LEAST, ("num", 1, 6, 0)]
        for form, values in ((SMALL, values), (FAR_FORMATS[0], some_numbers(FAR_FORMATS[0], 5, 48))):
            told = {parted_sum_of(form, order) for order in permutations(values)}
            self.assertEqual(len(told), 1)
            self.assertEqual(told, {parted_sum_of(form, values)})
        numbers = some_numbers(FAR_FORMATS[1], 60, 49)
        first = parted_sum_of(FAR_FORMATS[1], numbers)
        self.assertGreater(len(first), 5)
        for seed in range(10):
            self.assertEqual(parted_sum_of(FAR_FORMATS[1], Random(seed).sample(numbers, 60)), first)

    def test_what_cancels_and_what_goes_over(self):
        self.assertEqual(self.check(SMALL, [GREAT, LESS]), ())
        self.assertEqual(self.check(SMALL, [GREAT, GREAT, LEAST, LESS, LESS]), (LEAST,))
        self.assertEqual(self.check(SMALL, [GREAT, LEAST]), (GREAT, LEAST))
        for values in ([GREAT, GREAT], [GREAT, ("num", 0, 4, -2)], [LESS, ("num", 1, 4, -2)], [LESS] * 60):
            self.assertIsNone(self.check(SMALL, values))
        self.assertEqual(self.check(SMALL, [GREAT, ("num", 0, 3, -2)]), (GREAT, ("num", 0, 3, -2)))
        far = FAR_FORMATS[0]
        ends = [("num", 0, far[0] ** far[1] - 1, far[3]), ("num", 1, 1, far[2])]
        self.assertEqual(self.check(far, ends), tuple(ends))


class Judging(unittest.TestCase):
    def test_just_this_one_is_taken(self):
        values = [("num", 0, 5, 1), ("num", 0, 3, -2), LEAST, LEAST]
        told = parted_sum_of(SMALL, values)
        self.assertEqual(told, (("num", 0, 6, 1), ("num", 1, 3, -2)))
        self.assertIs(is_parted_sum(SMALL, values, told), True)
        self.assertIs(is_parted_sum(SMALL, tuple(values[::-1]), told), True)
        for thing in variants(told):
            self.assertIs(is_parted_sum(SMALL, values, thing), False, thing)
        six, rest, zero = told[0], told[1], ("num", 0, 0, -2)
        for thing in (list(told), [list(part) for part in told], (six, list(rest)), (rest, six), told + (zero,), (zero,) + told, (six,),
                      (six, zero, rest), (), (("num", 0, 5, 1), ("num", 0, 5, -2)), (six, ("num", 1, 2, -2), ("num", 1, 1, -2)),
                      (("num", 0, 12, 0), rest), (("num", 0, 6, True), rest), (("num", False, 6, 1), rest), (six, rest, LEAST, ("num", 1, 1, -2)),
                      (("inf", 0), rest), ("nan",), (("nan",),), told[:1] + ("rest",), None, told[0], (six, ("num", 1, 3.0, -2))):
            self.assertIs(is_parted_sum(SMALL, values, thing), False, thing)

    def test_where_a_sum_goes_over_nothing_is(self):
        for values in ([GREAT, GREAT], (LESS, ("num", 1, 4, -2))):
            for thing in (None, (), tuple(values), list(values), (("inf", 0),), (GREAT,), (GREAT, GREAT), "None"):
                self.assertIs(is_parted_sum(SMALL, values, thing), False, thing)

    def test_where_the_sum_is_0(self):
        self.assertIs(is_parted_sum(SMALL, [GREAT, LESS], ()), True)
        for thing in ([], None, (("num", 0, 0, -2),), (GREAT, LESS), False, 0, "", {}):
            self.assertIs(is_parted_sum(SMALL, [GREAT, LESS], thing), False)

    def test_any_value(self):
        values = [("num", 0, 5, 1), ("num", 0, 3, -2), LEAST, LEAST]
        extra = variants(parted_sum_of(SMALL, values))
        for given in (values, [], (GREAT, GREAT)):
            check_any_value(self, lambda thing: is_parted_sum(SMALL, given, thing), extra)

    def test_what_is_handed_in_stays(self):
        values = [GREAT, LEAST, ("num", 0, 3, 0), LESS]
        before = picture(values)
        first = parted_sum_of(SMALL, values)
        is_parted_sum(SMALL, values, first)
        self.assertEqual([picture(values), parted_sum_of(SMALL, values)], [before, first])


if __name__ == "__main__":
    unittest.main()
