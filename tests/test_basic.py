"""[15]: sums, differences, products and quotients."""

import unittest

from nearestheld.basic import add, by, take, times
from nearestheld.forms import is_outcome
from reference import (
    LARGE_FORMATS, SMALL_FORMATS, WAYS, greatest_size, numbers_of, outcome, outcome_in_large, some_numbers,
    some_of, values_of, worth_of,
)

NAN, INFS = ("nan",), (("inf", 0), ("inf", 1))
KEPT, MADE = (NAN, ()), (NAN, ("invalid",))
OPERATIONS = (add, take, times, by)


def zero_sign(way, one, other):
    return one if one == other else 1 if way == "down" else 0


def exact_of(operation, form, way, x, y):
    """The exact result of two NUMBERS and the SIGN that it has if it is 0; none of a by with a zero behind."""
    one, other = worth_of(form, x), worth_of(form, y)
    if operation == add:
        return one + other, zero_sign(way, x[1], y[1])
    if operation == take:
        return one - other, zero_sign(way, x[1], 1 - y[1])
    return one * other if operation == times else one / other, x[1] ^ y[1]


class Numbers(unittest.TestCase):
    def check(self, form, x, y, told_by):
        for operation in OPERATIONS:
            if operation == by and y[2] == 0:
                continue
            for way in WAYS:
                exact, s = exact_of(operation, form, way, x, y)
                told = operation(form, way, x, y)
                self.assertEqual(told, told_by(form, way, exact, s), (operation, form, way, x, y))
                self.assertIs(is_outcome(form, told), True)

    def test_pairs_in_small_formats(self):
        for form in SMALL_FORMATS:
            numbers = some_of(numbers_of(form), 36)
            for x in numbers:
                for y in numbers:
                    self.check(form, x, y, outcome)

    def test_pairs_in_large_formats(self):
        for form in LARGE_FORMATS:
            numbers = some_numbers(form, 60, 1)
            for x, y in zip(numbers, numbers[1:]):
                self.check(form, x, y, outcome_in_large)
            # Far apart: the lesser one only tells on which side of the greater one the sum is.
            top = ("num", 0, form[0] ** form[1] - 1, form[3])
            for y in (("num", 0, 1, form[2]), ("num", 1, 1, form[2])):
                self.check(form, top, y, outcome_in_large)
                self.check(form, y, top, outcome_in_large)

    def test_zeros_of_all_signs(self):
        for form in SMALL_FORMATS + LARGE_FORMATS:
            zeros = [("num", s, 0, form[2]) for s in (0, 1)]
            one = ("num", 1, form[0] ** form[1] - 1, form[3])
            for way in WAYS:
                mixed = zeros[1] if way == "down" else zeros[0]
                for s in (0, 1):
                    self.assertEqual(add(form, way, zeros[s], zeros[s]), (zeros[s], ()))
                    self.assertEqual(add(form, way, zeros[s], zeros[1 - s]), (mixed, ()))
                    self.assertEqual(take(form, way, zeros[s], zeros[s]), (mixed, ()))
                    self.assertEqual(take(form, way, zeros[s], zeros[1 - s]), (zeros[s], ()))
                    self.assertEqual(add(form, way, zeros[s], one), (one, ()))
                    self.assertEqual(times(form, way, zeros[s], one), (zeros[1 - s], ()))
                    self.assertEqual(times(form, way, zeros[s], zeros[1]), (zeros[1 - s], ()))
                    self.assertEqual(by(form, way, zeros[s], one), (zeros[1 - s], ()))
                self.assertEqual(take(form, way, one, one), (mixed, ()))

    def test_over_and_tiny_products(self):
        for form in SMALL_FORMATS + LARGE_FORMATS:
            base, digits, low, high = form
            top, least = ("num", 0, base ** digits - 1, high), ("num", 1, 1, low)
            if greatest_size(form) > 2:
                self.assertEqual(times(form, "even", top, top), (("inf", 0), ("inexact", "over")))
                self.assertEqual(times(form, "up", top, ("num", 1) + top[2:]), (("num", 1) + top[2:], ("inexact", "over")))
            if low < 0:
                self.assertEqual(times(form, "zero", least, least), (("num", 0, 0, low), ("inexact", "tiny")))
                self.assertEqual(times(form, "up", least, least), (("num", 0, 1, low), ("inexact", "tiny")))


class Specials(unittest.TestCase):
    def test_nans_come_first(self):
        for form in SMALL_FORMATS[:3]:
            for value in values_of(form):
                for operation in OPERATIONS:
                    for way in WAYS:
                        self.assertEqual(operation(form, way, NAN, value), KEPT)
                        self.assertEqual(operation(form, way, value, NAN), KEPT)

    def expected(self, operation, form, x, y):
        """What is told where an inf is among both or a zero is divided by; None of all else."""
        infs = [x[0] == "inf", y[0] == "inf"]
        zeros = [worth == 0 for worth in [1 if inf else worth_of(form, value) for inf, value in zip(infs, (x, y))]]
        if operation in (add, take):
            y = (y[0], 1 - y[1]) if infs[1] and operation == take else y
            if all(infs):
                return (x, ()) if x == y else MADE
            return (x, ()) if infs[0] else (y, ()) if infs[1] else None
        s = x[1] ^ y[1]
        if operation == times:
            return None if not any(infs) else MADE if any(zeros) else (("inf", s), ())
        if all(infs) or all(zeros):
            return MADE
        if infs[0]:
            return (("inf", s), ())
        if infs[1]:
            return (("num", s, 0, form[2]), ())
        return (("inf", s), ("by",)) if zeros[1] else None

    def test_infs_and_zeros(self):
        for form in SMALL_FORMATS + LARGE_FORMATS:
            values = [("num", s, c, form[2]) for s in (0, 1) for c in (0, 1, form[0] ** form[1] - 1)] + list(INFS)
            for x in values:
                for y in values:
                    for operation in OPERATIONS:
                        expected = self.expected(operation, form, x, y)
                        for way in WAYS:
                            told = operation(form, way, x, y)
                            if expected is None:
                                self.assertNotIn("by", told[1])
                                self.assertNotIn("invalid", told[1])
                            else:
                                self.assertEqual(told, expected, (operation, form, way, x, y))

    def test_take_is_add_of_the_opposite(self):
        form = SMALL_FORMATS[0]
        for x in values_of(form):
            for y in values_of(form):
                other = y if y == NAN else (y[0], 1 - y[1]) + y[2:]
                for way in WAYS:
                    self.assertEqual(take(form, way, x, y), add(form, way, x, other))

    def test_equal_arguments_give_equal_results(self):
        form = (10, 3, -3, 3)
        x, y = ("num", 0, 123, -3), ("num", 1, 456, 2)
        for operation in OPERATIONS:
            first = [operation(form, way, x, y) for way in WAYS]
            self.assertEqual([operation(form, way, x, y) for way in WAYS], first)
        self.assertEqual([form, x, y], [(10, 3, -3, 3), ("num", 0, 123, -3), ("num", 1, 456, 2)])


if __name__ == "__main__":
    unittest.main()
