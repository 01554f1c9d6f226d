"""[39]: operations over spans; [8]: their ends are told by the least and the greatest RESULT."""

import unittest
from fractions import Fraction
from itertools import product
from random import Random

from drawn import (
    BOTTOM, NO_NUMBERS, PARTS, SPAN_WORDS, TOP, WHOLE, drawn_span, end_beyond, end_under, numbers_within, outcome_of_word, plain_numbers,
    spans_among, spans_of_large,
)
from nearestheld.forms import is_span
from nearestheld.spanops import span_result
from nearestheld.spans import lies_in
from reference import LARGE_FORMATS, LARGEST_FORMATS, SMALL_FORMATS, numbers_of, outcome_in_large, some_numbers, some_of, worth_of
from things import picture

SMALL = (10, 2, -3, 3)
ZERO, TINY, HALF, ONE, TWO, THREE = ("num", 0, 0, -3), ("num", 0, 1, -3), ("num", 0, 50, -2), ("num", 0, 10, -1), ("num", 0, 20, -1), ("num", 0, 30, -1)
MINUS_ONE, MINUS_TWO, MINUS_TINY = ("num", 1, 10, -1), ("num", 1, 20, -1), ("num", 1, 1, -3)
GREATEST, LEAST = ("num", 0, 99, 3), ("num", 1, 99, 3)
# Sizes beyond all that NUMBERS of small FORMATS make of one another: what has no end goes on to there, and beyond.
FAR = (Fraction(10) ** 30, Fraction(10) ** 60)
BEYOND = Fraction(10) ** 15
WITHOUT_FUSED = tuple([word for word in SPAN_WORDS if word != "fused"])


def choices_of(form, span, many, as_divisor):
    """Real numbers that a SPAN HOLDS: NUMBERS, its ends among them; where it has no end, far ones; divisors near 0."""
    found = [worth_of(form, number) for number in numbers_within(form, span)]
    if len(found) > many:
        found = sorted(set(some_of(found, many) + [x for x in found if x == 0]))
    found += [-far for far in FAR] if span[1] == BOTTOM else []
    found += list(FAR) if span[2] == TOP else []
    if as_divisor and min(found) <= 0 <= max(found):
        found += [1 / far for far in FAR] if max(found) > 0 else []
        found += [-1 / far for far in FAR] if min(found) < 0 else []
    return found


def made_of(word, x):
    """What an operation but a root makes of real numbers, None if that is nothing."""
    one, last = x[0], x[-1]
    if word == "by" and last == 0:
        return None
    return {
        "add": lambda: one + last, "take": lambda: one - last, "times": lambda: one * last, "by": lambda: one / last,
        "fused": lambda: one * x[1] + last, "opposite": lambda: -one, "size": lambda: abs(one), "least": lambda: min(one, last),
        "greatest": lambda: max(one, last),
    }[word]()


def expected_result(form, word, spans, many=6):
    """What is told of SPANS of a small FORMAT, by going through choices of real numbers."""
    if NO_NUMBERS in spans:
        return (NO_NUMBERS, True)
    lists = [choices_of(form, span, many, word == "by" and at == 1) for at, span in enumerate(spans)]
    if word == "root":
        return expected_root(form, lists[0])
    results = [made_of(word, choice) for choice in product(*lists)]
    found = [x for x in results if x is not None]
    if not found:
        return (NO_NUMBERS, False)
    # What is so near to 0 comes near to it, what is so far goes on without an end.
    low, high = [Fraction(0) if abs(x) < 1 / BEYOND else x for x in (min(found), max(found))]
    span = ("span", BOTTOM if low < -BEYOND else end_under(form, low), TOP if high > BEYOND else end_beyond(form, high))
    return (span, None not in results)


def expected_root(form, choices):
    low, high = min(choices), max(choices)
    if high < 0:
        return (NO_NUMBERS, False)
    unsigned = [number for number in plain_numbers(form) if number[1] == 0]
    under = [number for number in unsigned if worth_of(form, number) ** 2 <= max(low, 0)]
    beyond = [number for number in unsigned if worth_of(form, number) ** 2 >= high]
    return (("span", under[-1], beyond[0] if beyond and high < BEYOND else TOP), low >= 0)


class Results(unittest.TestCase):
    def check(self, form, word, spans, many=6):
        before = picture(spans)
        told = span_result(form, word, spans)
        self.assertEqual(told, expected_result(form, word, spans, many), (form, word, spans))
        self.assertIs(told[1].__class__, bool)
        self.assertIs(is_span(form, told[0]), True)
        self.assertEqual(picture(spans), before)
        return told

    def test_each_word_over_spans_of_all_kinds(self):
        random = Random(38)
        for form in ((2, 3, -2, 1), (2, 2, 0, 0), (10, 2, 1, 2), (10, 2, -4, -3)):
            spans = spans_among(form, 3) + [NO_NUMBERS]
            for word in WITHOUT_FUSED:
                choices = list(product(spans, repeat=PARTS[word]))
                # All pairs of divisors and what is divided are gone through in one FORMAT.
                for chosen in choices if word == "by" and form[0] == 2 and form[1] == 3 else random.sample(choices, min(len(choices), 100)):
                    self.check(form, word, chosen, 4)

    def test_all_numbers_of_small_formats(self):
        random = Random(39)
        for form in SMALL_FORMATS:
            for word in SPAN_WORDS:
                for _ in range(15):
                    self.check(form, word, tuple([drawn_span(random, form) for _ in range(PARTS[word])]), 12)

    def test_fused(self):
        random = Random(40)
        for form in ((2, 3, -2, 1), (10, 2, 1, 2), (10, 2, -4, -3)):
            spans = spans_among(form, 3) + [NO_NUMBERS]
            for _ in range(250):
                self.check(form, "fused", tuple(random.choices(spans, k=3)), 4)

    def test_the_same_span_twice_is_not_the_same_number_twice(self):
        some, mixed = ("span", ONE, THREE), ("span", MINUS_TWO, ONE)
        self.assertEqual(self.check(SMALL, "take", (some, some)), (("span", MINUS_TWO, TWO), True))
        self.assertEqual(self.check(SMALL, "by", (some, some)), (("span", ("num", 0, 33, -2), THREE), True))
        self.assertEqual(self.check(SMALL, "times", (mixed, mixed)), (("span", MINUS_TWO, ("num", 0, 40, -1)), True))

    def test_what_goes_over(self):
        top, bottom = ("span", GREATEST, GREATEST), ("span", LEAST, LEAST)
        for word, spans, low, high in (
            ("add", (top, top), GREATEST, TOP), ("add", (bottom, bottom), BOTTOM, LEAST), ("take", (top, bottom), GREATEST, TOP),
            ("times", (top, bottom), BOTTOM, LEAST), ("times", (("span", LEAST, GREATEST), top), BOTTOM, TOP),
            ("times", (("span", ONE, TWO), top), GREATEST, TOP), ("fused", (top, top, top), GREATEST, TOP), ("by", (top, ("span", HALF, ONE)), GREATEST, TOP),
            ("by", (top, ("span", TINY, TINY)), GREATEST, TOP), ("fused", (top, ("span", TWO, TWO), bottom), GREATEST, GREATEST),
            ("add", (top, ("span", TINY, TINY)), GREATEST, TOP), ("take", (top, ("span", TINY, TINY)), ("num", 0, 98, 3), GREATEST),
            ("least", (top, top), GREATEST, GREATEST), ("size", (bottom,), GREATEST, GREATEST),
        ):
            self.assertEqual(self.check(SMALL, word, spans), (("span", low, high), True))
        # A root may be above all that a FORMAT has, too.
        self.assertEqual(span_result((10, 2, -4, -3), "root", (("span", ("num", 0, 50, -3), ("num", 0, 99, -3)),)),
                         (("span", ("num", 0, 99, -3), TOP), True))

    def test_what_is_tiny(self):
        tiny, minus = ("span", TINY, TINY), ("span", MINUS_TINY, MINUS_TINY)
        for word, spans, low, high in (
            ("times", (tiny, tiny), ZERO, TINY), ("times", (tiny, minus), MINUS_TINY, ZERO), ("by", (tiny, ("span", TWO, THREE)), ZERO, TINY),
            ("by", (minus, ("span", TWO, THREE)), MINUS_TINY, ZERO), ("fused", (tiny, minus, ("span", ZERO, ZERO)), MINUS_TINY, ZERO),
            ("take", (tiny, tiny), ZERO, ZERO), ("add", (minus, minus), ("num", 1, 2, -3), ("num", 1, 2, -3)), ("opposite", (("span", ZERO, ZERO),), ZERO, ZERO),
            ("opposite", (("span", ZERO, ONE),), MINUS_ONE, ZERO), ("times", (minus, ("span", ZERO, ONE)), MINUS_TINY, ZERO),
        ):
            self.assertEqual(self.check(SMALL, word, spans), (("span", low, high), True))

    def test_0_beside_what_has_no_end(self):
        zero, from_0, to_0 = ("span", ZERO, ZERO), ("span", ZERO, TOP), ("span", BOTTOM, ZERO)
        from_1, to_2 = ("span", ONE, TOP), ("span", BOTTOM, TWO)
        for one, other, low, high in (
            (WHOLE, zero, ZERO, ZERO), (from_1, zero, ZERO, ZERO), (to_2, zero, ZERO, ZERO), (from_1, ("span", ZERO, ONE), ZERO, TOP),
            (to_2, ("span", ZERO, ONE), BOTTOM, TWO), (from_0, from_0, ZERO, TOP), (from_0, to_0, BOTTOM, ZERO), (to_0, to_0, ZERO, TOP),
            (WHOLE, ("span", ZERO, ONE), BOTTOM, TOP), (from_1, to_0, BOTTOM, ZERO), (WHOLE, WHOLE, BOTTOM, TOP), (from_1, ("span", MINUS_ONE, ZERO), BOTTOM, ZERO),
        ):
            for pair in ((one, other), (other, one)):
                self.assertEqual(self.check(SMALL, "times", pair), (("span", low, high), True))
                self.assertEqual(self.check(SMALL, "fused", pair + (zero,)), (("span", low, high), True))
                self.assertEqual(self.check(SMALL, "fused", pair + (WHOLE,)), (WHOLE, True))
        self.assertEqual(self.check(SMALL, "fused", (WHOLE, zero, ("span", ONE, TWO))), (("span", ONE, TWO), True))
        self.assertEqual(self.check(SMALL, "fused", (from_1, zero, from_1)), (from_1, True))
        self.assertEqual(self.check(SMALL, "fused", (from_1, from_1, to_2)), (WHOLE, True))
        self.assertEqual(self.check(SMALL, "fused", (from_1, from_1, ("span", MINUS_ONE, TWO))), (("span", ZERO, TOP), True))

    def test_divisors_that_hold_0(self):
        zero, one_two, mixed = ("span", ZERO, ZERO), ("span", ONE, TWO), ("span", MINUS_ONE, TWO)
        low_0, high_0, minus = ("span", ZERO, TWO), ("span", MINUS_TWO, ZERO), ("span", MINUS_TWO, MINUS_ONE)
        for one, other, told in (
            (one_two, low_0, ("span", HALF, TOP)), (one_two, high_0, ("span", BOTTOM, ("num", 1, 50, -2))), (one_two, mixed, WHOLE),
            (minus, low_0, ("span", BOTTOM, ("num", 1, 50, -2))), (minus, high_0, ("span", HALF, TOP)), (minus, mixed, WHOLE),
            (mixed, low_0, WHOLE), (low_0, low_0, ("span", ZERO, TOP)), (low_0, high_0, ("span", BOTTOM, ZERO)), (high_0, high_0, ("span", ZERO, TOP)),
            (low_0, mixed, WHOLE), (zero, mixed, zero), (zero, low_0, zero), (zero, high_0, zero), (zero, WHOLE, zero), (zero, zero, NO_NUMBERS),
            (one_two, zero, NO_NUMBERS), (WHOLE, zero, NO_NUMBERS), (one_two, ("span", ZERO, TOP), ("span", ZERO, TOP)),
            (one_two, ("span", BOTTOM, ZERO), ("span", BOTTOM, ZERO)), (one_two, WHOLE, WHOLE), (one_two, ("span", MINUS_ONE, TOP), WHOLE),
            (one_two, ("span", BOTTOM, ONE), WHOLE), (WHOLE, low_0, WHOLE), (("span", ONE, TOP), low_0, ("span", HALF, TOP)),
            (("span", BOTTOM, MINUS_ONE), low_0, ("span", BOTTOM, ("num", 1, 50, -2))), (zero, ("span", ZERO, TOP), zero),
            (minus, ("span", ZERO, TOP), ("span", BOTTOM, ZERO)),
        ):
            self.assertEqual(self.check(SMALL, "by", (one, other)), (told, False))

    def test_divisors_without_ends(self):
        one_two, from_1, to_minus_1 = ("span", ONE, TWO), ("span", ONE, TOP), ("span", BOTTOM, MINUS_ONE)
        for one, other, told in (
            (one_two, from_1, ("span", ZERO, TWO)), (one_two, to_minus_1, ("span", MINUS_TWO, ZERO)), (from_1, from_1, ("span", ZERO, TOP)),
            (from_1, to_minus_1, ("span", BOTTOM, ZERO)), (WHOLE, from_1, WHOLE), (WHOLE, one_two, WHOLE), (from_1, one_two, ("span", HALF, TOP)),
            (("span", MINUS_ONE, TWO), from_1, ("span", MINUS_ONE, TWO)), (("span", ZERO, ZERO), from_1, ("span", ZERO, ZERO)),
            (to_minus_1, to_minus_1, ("span", ZERO, TOP)), (("span", BOTTOM, ZERO), from_1, ("span", BOTTOM, ZERO)),
        ):
            self.assertEqual(self.check(SMALL, "by", (one, other)), (told, True))

    def test_roots(self):
        nine = ("num", 0, 90, -1)
        for span, told, truth in (
            (("span", ONE, nine), ("span", ONE, THREE), True), (("span", TWO, TWO), ("span", ("num", 0, 14, -1), ("num", 0, 15, -1)), True),
            (("span", MINUS_TWO, MINUS_ONE), NO_NUMBERS, False), (("span", BOTTOM, MINUS_TINY), NO_NUMBERS, False),
            (("span", MINUS_TWO, nine), ("span", ZERO, THREE), False), (("span", MINUS_TWO, ZERO), ("span", ZERO, ZERO), False),
            (("span", ZERO, ZERO), ("span", ZERO, ZERO), True), (("span", ZERO, nine), ("span", ZERO, THREE), True), (("span", nine, TOP), ("span", THREE, TOP), True),
            (WHOLE, ("span", ZERO, TOP), False), (("span", BOTTOM, nine), ("span", ZERO, THREE), False), (("span", ZERO, TOP), ("span", ZERO, TOP), True),
            (("span", TINY, GREATEST), ("span", ("num", 0, 31, -3), ("num", 0, 32, 1)), True),
        ):
            self.assertEqual(self.check(SMALL, "root", (span,)), (told, truth))

    def test_no_choices(self):
        for word in SPAN_WORDS:
            for place in range(PARTS[word]):
                for other in (NO_NUMBERS, WHOLE, ("span", ZERO, ZERO), ("span", MINUS_TWO, ONE)):
                    spans = tuple([NO_NUMBERS if at == place else other for at in range(PARTS[word])])
                    self.assertEqual(self.check(SMALL, word, spans), (NO_NUMBERS, True))


class Ends(unittest.TestCase):
    def check_single(self, form, word, numbers):
        """Check the SPANS of single NUMBERS against what the operation itself tells by "down" and by "up"."""
        spans = tuple([("span", number, number) for number in numbers])
        ends = [outcome_of_word(form, way, word, numbers)[0] for way in ("down", "up")]
        told = span_result(form, word, spans)
        if ends[0] == ("nan",) or (word == "by" and numbers[1][2] == 0):
            self.assertEqual(told, (NO_NUMBERS, False))
        else:
            plain = [("num", 0) + end[2:] if end[0] == "num" and end[2] == 0 else end for end in ends]
            self.assertEqual(told, (("span",) + tuple(plain), True))

    def test_single_numbers_of_small_formats(self):
        random = Random(41)
        for form in SMALL_FORMATS:
            numbers = plain_numbers(form)
            for word in SPAN_WORDS:
                few = some_of(numbers, 18)
                for chosen in product(few, repeat=PARTS[word]) if PARTS[word] < 3 else [random.choices(numbers, k=3) for _ in range(200)]:
                    self.check_single(form, word, tuple(chosen))

    def test_single_numbers_of_large_formats(self):
        for form in LARGE_FORMATS + LARGEST_FORMATS:
            numbers = [number if number[2] else ("num", 0, 0, form[2]) for number in some_numbers(form, 36, 42)]
            for word in SPAN_WORDS:
                for at in range(12):
                    self.check_single(form, word, tuple(numbers[at:at + 3 * PARTS[word]:3]))

    def test_large_formats(self):
        for form in LARGE_FORMATS + LARGEST_FORMATS[:2]:
            spans = spans_of_large(form, 4, 8)
            for word in SPAN_WORDS:
                for at in range(len(spans)):
                    chosen = tuple([spans[(at + 3 * part) % len(spans)] for part in range(PARTS[word])])
                    self.check_by_ends(form, word, chosen)

    def check_by_ends(self, form, word, spans):
        """Check against the results at the ends, and at 0, of SPANS with NUMBERS as ends."""
        lists = [[worth_of(form, end) for end in span[1:]] for span in spans]
        lists = [ends + [Fraction(0)] if ends[0] < 0 < ends[1] else ends for ends in lists]
        if word == "root" or (word == "by" and min(lists[1]) <= 0 <= max(lists[1])):
            return
        results = [made_of(word, choice) for choice in product(*lists)]
        ends = [outcome_in_large(form, "down", min(results), 0)[0], outcome_in_large(form, "up", max(results), 0)[0]]
        plain = [("num", 0) + end[2:] if end[0] == "num" and end[2] == 0 else end for end in ends]
        self.assertEqual(span_result(form, word, spans), (("span",) + tuple(plain), True))

    def test_narrower_spans_tell_narrower_ones(self):
        random = Random(43)
        for form in SMALL_FORMATS[:6]:
            for word in SPAN_WORDS:
                for _ in range(40):
                    outer = tuple([drawn_span(random, form) for _ in range(PARTS[word])])
                    inner = tuple([self.within(random, form, span) for span in outer])
                    told, truth = span_result(form, word, inner)
                    wide, wide_truth = span_result(form, word, outer)
                    self.assertIs(lies_in(form, told, wide), True)
                    self.assertTrue(truth or not wide_truth)

    def within(self, random, form, span):
        if span == NO_NUMBERS or random.random() < 0.2:
            return NO_NUMBERS
        numbers = numbers_within(form, span)
        low, high = sorted(random.choices(range(len(numbers)), k=2))
        return ("span", span[1] if random.random() < 0.3 else numbers[low], numbers[high])

    def test_runs_lie_in_the_spans(self):
        random = Random(44)
        for form in SMALL_FORMATS:
            numbers = numbers_of(form)
            for word in SPAN_WORDS:
                for _ in range(40):
                    values = tuple(random.choices(numbers, k=PARTS[word]))
                    spans = []
                    for value in values:
                        plain = ("num", 0) + value[2:] if value[2] == 0 else value
                        spans.append(random.choice([("span", plain, plain), ("span", plain, TOP), ("span", BOTTOM, plain), WHOLE]))
                    if word == "by" and values[1][2] == 0 or word == "root" and values[0][1] == 1 and values[0][2]:
                        self.assertIs(span_result(form, word, tuple(spans))[1], False)
                        continue
                    told, _ = span_result(form, word, tuple(spans))
                    for way in ("even", "away", "up", "down", "zero"):
                        value = outcome_of_word(form, way, word, values)[0]
                        if value[0] == "num":
                            plain = ("num", 0) + value[2:] if value[2] == 0 else value
                            self.assertIs(lies_in(form, ("span", plain, plain), told), True)


if __name__ == "__main__":
    unittest.main()
