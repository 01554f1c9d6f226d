"""[7], [29]: sums that are ROUNDED once."""

import unittest
from fractions import Fraction
from itertools import permutations, product
from random import Random

from nearestheld.basic import add, times
from nearestheld.forms import is_fraction, is_outcome
from nearestheld.roots import fused
from nearestheld.sums import counted_sum_of, dot_of, exact_sum, sum_of
from nearestheld.worths import number_of
from reference import (
    LARGE_FORMATS, LARGEST_FORMATS, SMALL_FORMATS, WAYS, fraction_of, greatest_size, numbers_of, outcome_in_large, pair_of,
    some_numbers, some_of, values_of, worth_of,
)
from things import picture

NAN, TOP, BOTTOM = ("nan",), ("inf", 0), ("inf", 1)
KEPT, MADE = (NAN, ()), (NAN, ("invalid",))
SMALL, TENS = (2, 3, -2, 1), (10, 3, -3, 3)
FORMATS = SMALL_FORMATS + ((20, 2, -1, 0), (10, 3, -3, 3))
FAR_FORMATS = LARGE_FORMATS + LARGEST_FORMATS


def sign_of_none(way, signs):
    """The SIGN of a sum that is 0."""
    if 0 not in signs:
        return 1 if 1 in signs else 0
    if 1 not in signs:
        return 0
    return 1 if way == "down" else 0


def summed(form, way, parts):
    """The OUTCOME of a sum of parts, which are (SIGN, Fraction, or None for an inf)."""
    infs = {s for s, exact in parts if exact is None}
    if infs:
        return MADE if len(infs) == 2 else (("inf", infs.pop()), ())
    total = sum([exact for _, exact in parts], Fraction(0))
    return outcome_in_large(form, way, total, sign_of_none(way, [s for s, _ in parts]))


def part_of(form, value):
    return (value[1], None if value[0] == "inf" else worth_of(form, value))


def expected_sum(form, way, values):
    if NAN in values:
        return KEPT
    return summed(form, way, [part_of(form, value) for value in values])


def expected_dot(form, way, pairs):
    if any([NAN in pair for pair in pairs]):
        return KEPT
    parts = []
    for x, y in pairs:
        (s, one), (other, two) = part_of(form, x), part_of(form, y)
        if None in (one, two) and 0 in (one, two):
            return MADE
        parts.append((int(s != other), None if None in (one, two) else one * two))
    return summed(form, way, parts)


def shuffled(things, seed):
    things = list(things)
    Random(seed).shuffle(things)
    return things


def cancelling(form, many, seed):
    """So many NUMBERS, one half of them opposite to the other half, or to the neighbours of these."""
    random, beyond = Random(seed), form[0] ** form[1]
    found = []
    for _, s, c, e in some_numbers(form, many // 2, seed):
        least = 0 if e == form[2] else beyond // form[0]
        near = min(max(c + random.choice((-1, 0, 0, 1)), least), beyond - 1)
        found += [("num", s, c, e), ("num", 1 - s, near, e)]
    return shuffled(found, seed)


class Sums(unittest.TestCase):
    def check(self, form, values):
        for way in WAYS:
            told = sum_of(form, way, values)
            self.assertIs(is_outcome(form, told), True)
            self.assertEqual(told, expected_sum(form, way, values), (form, way, values))

    def test_of_none(self):
        for form in FORMATS + FAR_FORMATS:
            for way in WAYS:
                for values in ([], ()):
                    self.assertEqual(sum_of(form, way, values), (("num", 0, 0, form[2]), ()))

    def test_of_one(self):
        for form in FORMATS:
            for value in values_of(form):
                for way in WAYS:
                    self.assertEqual(sum_of(form, way, [value]), (value, ()))

    def test_of_two_it_is_add(self):
        for form in FORMATS + FAR_FORMATS[:2]:
            values = some_of(values_of(form), 30) if form in FORMATS else some_numbers(form, 15, 34)
            for x, y in product(values + [NAN, TOP, BOTTOM], repeat=2):
                for way in WAYS:
                    self.assertEqual(sum_of(form, way, (x, y)), add(form, way, x, y), (form, way, x, y))

    def test_some_in_small_formats(self):
        for form in FORMATS:
            values = shuffled(numbers_of(form) * 2, 35)
            for many in (3, 4, 7, 20, 60):
                for start in range(0, min(len(values), 400) - many, 20):
                    self.check(form, values[start:start + many])

    def test_sixty_that_nearly_cancel(self):
        for form in FAR_FORMATS + ((2, 3, -40, 40), (10, 3, -30, 30)):
            for seed in range(3):
                values = cancelling(form, 60, seed)
                self.check(form, values)

    def test_in_every_order_the_same(self):
        for form in (SMALL, TENS, FAR_FORMATS[0]):
            values = cancelling(form, 60, 7)
            for way in WAYS:
                first = sum_of(form, way, values)
                for seed in range(10):
                    self.assertEqual(sum_of(form, way, shuffled(values, seed)), first)
                self.assertEqual(sum_of(form, way, tuple(values[::-1])), first)
        great, less, least = ("num", 0, 7, 1), ("num", 1, 7, 1), ("num", 0, 1, -2)
        for way in WAYS:
            told = {sum_of(SMALL, way, values) for values in permutations((great, less, least, great, less))}
            self.assertEqual(told, {(least, ())})

    def test_rounded_once(self):
        # Rounded after each step the first sum would be 8, and the others would go OVER.
        parts = [("num", 0, 7, 0), ("num", 0, 2, -2), ("num", 1, 1, -2)]
        self.assertEqual(sum_of(SMALL, "even", parts), (("num", 0, 7, 0), ("inexact",)))
        great = ("num", 0, 7, 1)
        self.assertEqual(sum_of(SMALL, "even", [great] * 5 + [("num", 1, 7, 1)] * 5), (("num", 0, 0, -2), ()))
        self.assertEqual(sum_of(SMALL, "up", [great] * 5 + [("num", 1, 7, 1)] * 4), (great, ()))

    def test_zeros(self):
        for form in FORMATS + FAR_FORMATS:
            plus, minus = ("num", 0, 0, form[2]), ("num", 1, 0, form[2])
            one, other = ("num", 0, 1, form[2]), ("num", 1, 1, form[2])
            for way in WAYS:
                mixed = 1 if way == "down" else 0
                for values, s in (([plus] * 3, 0), ([minus] * 3, 1), ([plus, minus], mixed), ([minus, minus, plus], mixed),
                                  ([one, other], mixed), ([other, one, minus], mixed), ([one, other, plus], mixed),
                                  ([minus], 1), ([plus], 0)):
                    self.assertEqual(sum_of(form, way, values), (("num", s, 0, form[2]), ()), (way, values))

    def test_infs_and_nans(self):
        for form in FORMATS + FAR_FORMATS:
            one, zero = ("num", 1, 1, form[2]), ("num", 1, 0, form[2])
            for way in WAYS:
                for values, expected in (
                    ([TOP], (TOP, ())), ([one, BOTTOM, zero], (BOTTOM, ())), ([TOP, one, TOP], (TOP, ())), ([TOP, BOTTOM], MADE),
                    ([BOTTOM, one, TOP], MADE), ([BOTTOM, TOP, NAN], KEPT), ([NAN, one], KEPT), ([one, NAN], KEPT), ([NAN], KEPT),
                    ([TOP, BOTTOM, BOTTOM], MADE), ([NAN, NAN], KEPT), ([NAN, TOP], KEPT),
                ):
                    self.assertEqual(sum_of(form, way, values), expected)
                    self.assertEqual(sum_of(form, way, tuple(values[::-1])), expected)

    def test_half_way_tiny_and_over(self):
        form = (10, 3, -3, 3)
        half = ("num", 0, 5, -3)
        for c, ends in ((124, (124, 125, 125, 124, 124)), (125, (126, 126, 126, 125, 125))):
            for way, end in zip(WAYS, ends):
                told = sum_of(form, way, [("num", 0, c, -2), ("num", 0, 2, -3), ("num", 0, 3, -3)])
                self.assertEqual(told, (("num", 0, end, -2), ("inexact",)))
                self.assertEqual(sum_of(form, way, [half, ("num", 0, c, -2)]), told)
        top = ("num", 0, 999, 3)
        unit = [("num", 0, 250, 0)]
        for way, told in zip(WAYS, (TOP, TOP, TOP, top, top)):
            self.assertEqual(sum_of(form, way, [top] + unit * 4), (told, ("inexact", "over")))
            self.assertEqual(sum_of(form, way, [top] + unit * 2), (told, ("inexact", "over") if told == TOP else ("inexact",)))
        # A sum is TINY only where it is exact: all are multiples of the least NUMBER.
        self.assertEqual(sum_of(form, "up", [half, ("num", 1, 4, -3)]), (("num", 0, 1, -3), ()))

    def test_as_often_as_counted(self):
        form = (10, 3, -3, 3)
        for values in ([("num", 0, 5, -3)] * 3, [("num", 1, 0, -3)] * 2, [TOP, TOP], [NAN], [("num", 0, 999, 3)] * 7):
            counted = [(values[0], len(values))]
            for way in WAYS:
                self.assertEqual(counted_sum_of(form, way, counted), sum_of(form, way, values))


class Dots(unittest.TestCase):
    def check(self, form, pairs):
        for way in WAYS:
            told = dot_of(form, way, pairs)
            self.assertIs(is_outcome(form, told), True)
            self.assertEqual(told, expected_dot(form, way, pairs), (form, way, pairs))

    def test_of_none(self):
        for form in FORMATS + FAR_FORMATS:
            for way in WAYS:
                for pairs in ([], ()):
                    self.assertEqual(dot_of(form, way, pairs), (("num", 0, 0, form[2]), ()))

    def test_of_one_pair_it_is_times(self):
        for form in FORMATS + FAR_FORMATS[:2]:
            values = some_of(values_of(form), 30) if form in FORMATS else some_numbers(form, 15, 36)
            for x, y in product(values + [NAN, TOP, BOTTOM], repeat=2):
                for way in WAYS:
                    self.assertEqual(dot_of(form, way, [(x, y)]), times(form, way, x, y), (form, way, x, y))

    def test_of_a_pair_and_one_by_1_it_is_fused(self):
        for form in FORMATS + FAR_FORMATS:
            one = number_of(form, (1, 1))
            if one is None:
                continue
            values = shuffled(some_of(values_of(form), 12) if form in FORMATS else some_numbers(form, 8, 37), 38)[:4]
            values += [NAN, TOP, BOTTOM, ("num", 1, 0, form[2]), ("num", 0, 0, form[2])]
            for x, y, z in product(values, repeat=3):
                for way in WAYS:
                    expected = fused(form, way, x, y, z)
                    self.assertEqual(dot_of(form, way, [(x, y), (z, one)]), expected, (form, way, x, y, z))
                    self.assertEqual(dot_of(form, way, ((one, z), (y, x))), expected)

    def test_some_in_small_formats(self):
        for form in FORMATS:
            numbers = shuffled(numbers_of(form), 39)
            pairs = list(zip(numbers, shuffled(numbers, 40)))
            for many in (2, 3, 6, 30):
                for start in range(0, min(len(pairs), 300) - many, 15):
                    self.check(form, pairs[start:start + many])

    def test_sixty_that_nearly_cancel(self):
        for form in FAR_FORMATS + ((2, 3, -40, 40), (10, 3, -30, 30)):
            values, factors = some_numbers(form, 30, 41), some_numbers(form, 30, 42)
            pairs = [(x, y) for x, y in zip(values, factors)]
            pairs += [((x[0], 1 - x[1]) + x[2:], y) for x, y in pairs[1:]] + [(values[3], ("num", 0, 1, form[2]))]
            pairs = shuffled(pairs, 43)
            self.check(form, pairs)
            for way in WAYS:
                first = dot_of(form, way, pairs)
                for seed in range(5):
                    self.assertEqual(dot_of(form, way, tuple(shuffled(pairs, seed))), first)

    def test_products_beyond_all_that_cancel(self):
        great, less, least = ("num", 0, 7, 1), ("num", 1, 7, 1), ("num", 0, 1, -2)
        self.assertEqual(dot_of(SMALL, "up", [(great, great), (least, ("num", 0, 4, 0)), (less, great)]), (("num", 0, 4, -2), ()))
        self.assertEqual(dot_of(SMALL, "up", [(least, least)] * 4), (least, ()))
        self.assertEqual(dot_of(SMALL, "up", [(least, least)] * 3), (least, ("inexact", "tiny")))
        self.assertEqual(dot_of(SMALL, "even", [(least, least)] * 2), (("num", 0, 0, -2), ("inexact", "tiny")))
        self.assertEqual(dot_of(SMALL, "away", [(least, least)] * 2), (least, ("inexact", "tiny")))
        self.assertEqual(dot_of(SMALL, "zero", [(great, great)]), (great, ("inexact", "over")))

    def test_zeros(self):
        for form in FORMATS:
            plus, minus = ("num", 0, 0, form[2]), ("num", 1, 0, form[2])
            one, other = ("num", 0, 1, form[2]), ("num", 1, 1, form[2])
            for way in WAYS:
                mixed = 1 if way == "down" else 0
                for pairs, s in (([(plus, one)], 0), ([(minus, other)], 0), ([(plus, other)], 1), ([(minus, one), (plus, other)], 1),
                                 ([(minus, one), (plus, one)], mixed), ([(one, one), (one, other)], mixed),
                                 ([(minus, minus), (plus, plus)], 0), ([(minus, plus), (plus, minus)], 1)):
                    self.assertEqual(dot_of(form, way, pairs), (("num", s, 0, form[2]), ()), (way, pairs))

    def test_infs_and_nans(self):
        for form in FORMATS + FAR_FORMATS:
            one, other, zero = ("num", 0, 1, form[2]), ("num", 1, 1, form[2]), ("num", 1, 0, form[2])
            for way in WAYS:
                for pairs, expected in (
                    ([(TOP, one)], (TOP, ())), ([(TOP, other)], (BOTTOM, ())), ([(BOTTOM, BOTTOM), (one, one)], (TOP, ())),
                    ([(other, BOTTOM), (zero, zero)], (TOP, ())), ([(TOP, zero)], MADE), ([(zero, BOTTOM), (one, one)], MADE),
                    ([(TOP, one), (TOP, other)], MADE), ([(TOP, one), (other, BOTTOM)], (TOP, ())), ([(TOP, TOP), (BOTTOM, one)], MADE),
                    ([(TOP, zero), (NAN, one)], KEPT), ([(NAN, zero)], KEPT), ([(one, NAN), (TOP, BOTTOM)], KEPT), ([(NAN, TOP)], KEPT),
                    ([(TOP, TOP), (zero, TOP)], MADE), ([(TOP, one), (TOP, other), (NAN, NAN)], KEPT),
                ):
                    self.assertEqual(dot_of(form, way, pairs), expected, pairs)
                    self.assertEqual(dot_of(form, way, tuple([pair[::-1] for pair in pairs[::-1]])), expected)


class ExactSums(unittest.TestCase):
    def test_of_none(self):
        for form in FORMATS + FAR_FORMATS:
            self.assertEqual([exact_sum(form, []), exact_sum(form, ())], [(0, 1), (0, 1)])

    def test_some(self):
        for form in FORMATS + FAR_FORMATS:
            numbers = shuffled(numbers_of(form), 44)[:60] if form in FORMATS else some_numbers(form, 60, 45)
            for many in (1, 2, 3, 60):
                told = exact_sum(form, numbers[:many])
                self.assertIs(is_fraction(told), True)
                self.assertEqual(fraction_of(told), sum([worth_of(form, number) for number in numbers[:many]]))
                self.assertEqual(exact_sum(form, tuple(numbers[:many][::-1])), told)

    def test_far_apart_and_beyond(self):
        for form in FAR_FORMATS:
            great, least = ("num", 0, form[0] ** form[1] - 1, form[3]), ("num", 1, 1, form[2])
            self.assertEqual(exact_sum(form, [great, least]), pair_of(greatest_size(form) - Fraction(form[0]) ** form[2]))
            self.assertEqual(exact_sum(form, [great] * 60), pair_of(greatest_size(form) * 60))
            self.assertEqual(exact_sum(form, [least, great, ("num", 1) + great[2:]]), pair_of(-Fraction(form[0]) ** form[2]))


class Arguments(unittest.TestCase):
    def test_what_is_handed_in_stays(self):
        values = [("num", 0, 7, 1), TOP, ("num", 1, 1, -2), NAN]
        pairs = [(("num", 0, 7, 1), TOP), (NAN, NAN)]
        numbers = [("num", 0, 7, 1), ("num", 1, 1, -2)]
        before = picture([values, pairs, numbers])
        for _ in range(2):
            self.assertEqual([sum_of(SMALL, "even", values), dot_of(SMALL, "even", pairs), exact_sum(SMALL, numbers)],
                             [KEPT, KEPT, (55, 4)])
            self.assertEqual(picture([values, pairs, numbers]), before)


if __name__ == "__main__":
    unittest.main()
