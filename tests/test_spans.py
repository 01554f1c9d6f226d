"""[37], [38]: spans and their sides."""

import unittest
from fractions import Fraction
from random import Random

from drawn import (
    BOTTOM, NO_NUMBERS, TOP, WHOLE, drawn_span, end_beyond, end_under, numbers_within, spans_among, spans_of_large,
)
from nearestheld.forms import is_span
from nearestheld.spans import holds, hull, lies_in, meet, side_of, span_into, span_of, whole_span, width_of
from nearestheld.worths import number_of
from reference import (
    LARGE_FORMATS, LARGEST_FORMATS, SMALL_FORMATS, greatest_size, interesting_fractions, numbers_in_order, outcome_in_large, pair_of,
    some_of, worth_of,
)

SMALL, BITS, FEW = (10, 2, -3, 3), (2, 3, -2, 1), (2, 2, 0, 0)
ZERO, ONE, TWO, THREE = ("num", 0, 0, -3), ("num", 0, 10, -1), ("num", 0, 20, -1), ("num", 0, 30, -1)
MINUS_ONE, MINUS_TWO = ("num", 1, 10, -1), ("num", 1, 20, -1)


def place(form, end):
    """A Fraction in the order of the ends of SPANS: infs are beyond all NUMBERS."""
    if end[0] == "inf":
        return (1 - 2 * end[1]) * (2 * greatest_size(form) + 1)
    return worth_of(form, end)


def place_held(form, span, x):
    """Whether a SPAN HOLDS a Fraction, an inf as an end letting all on its side."""
    if span == NO_NUMBERS:
        return False
    _, low, high = span
    return (low == BOTTOM or worth_of(form, low) <= x) and (high == TOP or x <= worth_of(form, high))


def least_span(form, low, high):
    """The LEAST SPAN of two Fractions, looked up among all NUMBERS of a small FORMAT."""
    return ("span", end_under(form, low), end_beyond(form, high))


def hull_by_ends(form, one, other):
    """The LEAST SPAN in which both lie, by the order of Fractions."""
    ends = [end for span in (one, other) for end in span[1:]]
    if not ends:
        return NO_NUMBERS
    return ("span", min(ends, key=lambda end: place(form, end)), max(ends, key=lambda end: place(form, end)))


def probes(form):
    """Fractions at, between and beyond all NUMBERS of a small FORMAT."""
    points = sorted({worth_of(form, number) for number in numbers_in_order(form)})
    between = [(one + other) / 2 for one, other in zip(points, points[1:])]
    return [points[0] - 1, points[0] * 10 ** 9] + points + between + [points[-1] + 1, points[-1] * 10 ** 9]


class Spans(unittest.TestCase):
    def test_span_of_in_small_formats(self):
        random = Random(37)
        for form in SMALL_FORMATS:
            fractions = [x * s for x in some_of(interesting_fractions(form), 60) for s in (1, -1)]
            for _ in range(300):
                low, high = sorted(random.choices(fractions, k=2))
                for one, other in ((low, high), (low, low)):
                    told = span_of(form, pair_of(one), pair_of(other))
                    self.assertEqual(told, least_span(form, one, other))
                    self.assertIs(is_span(form, told), True)

    def test_span_of_in_large_formats(self):
        random = Random(38)
        for form in LARGE_FORMATS + LARGEST_FORMATS:
            for _ in range(15):
                e = random.choice((form[2], form[3], random.randint(form[2], form[3])))
                x = random.randint(-10 ** 6, 10 ** 6) * Fraction(form[0]) ** e / random.randint(1, 50)
                ends = [outcome_in_large(form, way, x, 0)[0] for way in ("down", "up")]
                ends = [("num", 0, 0, form[2]) if end[:3] == ("num", 1, 0) else end for end in ends]
                self.assertEqual(span_of(form, pair_of(x), pair_of(x)), ("span",) + tuple(ends))

    def test_span_of_known_ones(self):
        top, bottom, tiny = ("num", 0, 99, 3), ("num", 1, 99, 3), ("num", 0, 1, -3)
        for low, high, told in (
            ((1, 1), (2, 1), (ONE, TWO)), ((1, 1), (1, 1), (ONE, ONE)), ((0, 1), (0, 1), (ZERO, ZERO)),
            ((10 ** 9, 1), (10 ** 9, 1), (top, TOP)), ((-10 ** 9, 1), (-10 ** 9, 1), (BOTTOM, bottom)),
            ((-10 ** 9, 1), (10 ** 9, 1), (BOTTOM, TOP)), ((99000, 1), (99000, 1), (top, top)), ((99001, 1), (99001, 1), (top, TOP)),
            ((1, 9999), (1, 9999), (ZERO, tiny)), ((-1, 9999), (-1, 9999), (("num", 1, 1, -3), ZERO)),
            ((-1, 9999), (1, 9999), (("num", 1, 1, -3), tiny)), ((-1, 9999), (0, 1), (("num", 1, 1, -3), ZERO)),
            ((10 ** 2099 + 1, 10 ** 2099), (10 ** 2099 + 1, 10 ** 2099), (ONE, ("num", 0, 11, -1))),
        ):
            self.assertEqual(span_of(SMALL, low, high), ("span",) + told)

    def test_whole_span(self):
        self.assertEqual(whole_span(), WHOLE)
        for form in SMALL_FORMATS:
            self.assertIs(is_span(form, whole_span()), True)
            for x in probes(form):
                self.assertIs(holds(form, whole_span(), pair_of(x)), True)

    def test_holds(self):
        for form in SMALL_FORMATS:
            for span in some_of(spans_among(form, 40), 40) + [NO_NUMBERS]:
                for x in some_of(probes(form), 60):
                    self.assertIs(holds(form, span, pair_of(x)), place_held(form, span, x))

    def test_holds_at_the_ends_and_just_beside_them(self):
        little = Fraction(1, 10 ** 2090)
        for form in LARGE_FORMATS + (SMALL,):
            for span in spans_of_large(form, 6, 5):
                low, high = worth_of(form, span[1]), worth_of(form, span[2])
                inner = little if low < high else -little
                for x, told in ((low, True), (high, True), (low - little, False), (high + little, False), (low + little, inner > 0),
                                (high - little, inner > 0), ((low + high) / 2, True), (high + abs(high) + 1, False), (low - abs(low) - 1, False)):
                    self.assertIs(holds(form, span, pair_of(x)), told)
        for span, x, told in (
            (("span", BOTTOM, ONE), (-10 ** 99, 1), True), (("span", BOTTOM, ONE), (10 ** 99 + 1, 10 ** 99), False), (("span", ONE, TOP), (10 ** 99, 1), True),
            (("span", ONE, TOP), (10 ** 99 - 1, 10 ** 99), False), (NO_NUMBERS, (0, 1), False), (("span", ONE, ("num", 0, 99, 3)), (99001, 1), False),
            (("span", ("num", 0, 99, 3), TOP), (99001, 1), True), (("span", ("num", 0, 99, 3), TOP), (98999, 1), False),
        ):
            self.assertIs(holds(SMALL, span, x), told)

    def test_lies_in_hull_and_meet(self):
        for form in (FEW, (10, 2, 1, 2), BITS):
            spans = some_of(spans_among(form, 40), 24) + [NO_NUMBERS, WHOLE]
            points = sorted(some_of(probes(form), 50))
            for one in spans:
                held = [place_held(form, one, x) for x in points]
                for other in spans:
                    both = [place_held(form, other, x) for x in points]
                    self.assertIs(lies_in(form, one, other), hull_by_ends(form, one, other) == other)
                    self.check_meet(form, one, other, points, [x and y for x, y in zip(held, both)])
                    self.check_hull(form, one, other, points, [x or y for x, y in zip(held, both)])

    def check_meet(self, form, one, other, points, expected):
        told = meet(form, one, other)
        self.assertIs(is_span(form, told), True)
        self.assertEqual([place_held(form, told, x) for x in points], expected)

    def check_hull(self, form, one, other, points, expected):
        told = hull(form, one, other)
        self.assertIs(is_span(form, told), True)
        self.assertEqual(told, hull_by_ends(form, one, other))
        held = [place_held(form, told, x) for x in points]
        self.assertTrue(all([y for x, y in zip(expected, held) if x]))

    def test_known_hulls_and_meets(self):
        one_two, two_three, point = ("span", ONE, TWO), ("span", TWO, THREE), ("span", TWO, TWO)
        for one, other, hulled, met in (
            (one_two, two_three, ("span", ONE, THREE), point), (one_two, point, one_two, point), (("span", ONE, ONE), two_three, ("span", ONE, THREE), NO_NUMBERS),
            (("span", BOTTOM, ONE), two_three, ("span", BOTTOM, THREE), NO_NUMBERS), (("span", BOTTOM, TWO), ("span", TWO, TOP), WHOLE, point),
            (("span", BOTTOM, ONE), ("span", TWO, TOP), WHOLE, NO_NUMBERS), (WHOLE, one_two, WHOLE, one_two), (NO_NUMBERS, one_two, one_two, NO_NUMBERS),
            (NO_NUMBERS, NO_NUMBERS, NO_NUMBERS, NO_NUMBERS), (WHOLE, NO_NUMBERS, WHOLE, NO_NUMBERS),
            (("span", MINUS_ONE, ZERO), ("span", ZERO, ONE), ("span", MINUS_ONE, ONE), ("span", ZERO, ZERO)),
        ):
            for x, y in ((one, other), (other, one)):
                self.assertEqual([hull(SMALL, x, y), meet(SMALL, x, y)], [hulled, met])

    def test_width_of(self):
        for form in SMALL_FORMATS:
            for span in some_of(spans_among(form, 40), 60):
                expected = None
                if BOTTOM not in span and TOP not in span:
                    expected = pair_of(worth_of(form, span[2]) - worth_of(form, span[1]))
                self.assertEqual(width_of(form, span), expected)
            self.assertEqual(width_of(form, NO_NUMBERS), (0, 1))
        for span, told in ((("span", ONE, ONE), (0, 1)), (("span", ZERO, ZERO), (0, 1)), (("span", MINUS_TWO, ONE), (3, 1)), (("span", BOTTOM, ONE), None),
                           (("span", ONE, TOP), None), (WHOLE, None)):
            self.assertEqual(width_of(SMALL, span), told)

    def test_span_into(self):
        for form in (FEW, BITS, (10, 2, -1, 0), (36, 2, -1, -1), (10, 2, 1, 2)):
            for other in SMALL_FORMATS:
                for span in some_of(spans_among(form, 40), 40) + [WHOLE]:
                    told = span_into(form, other, span)
                    low = BOTTOM if span[1] == BOTTOM else least_span(other, worth_of(form, span[1]), worth_of(form, span[1]))[1]
                    high = TOP if span[2] == TOP else least_span(other, worth_of(form, span[2]), worth_of(form, span[2]))[2]
                    self.assertEqual(told, ("span", low, high))
                    self.assertIs(is_span(other, told), True)
                self.assertEqual(span_into(form, other, NO_NUMBERS), NO_NUMBERS)

    def test_span_into_known_ones(self):
        top, tiny = ("num", 0, 99, 3), ("num", 0, 1, -3)
        for form, other, span, told in (
            (SMALL, (10, 3, -4, 3), ("span", ONE, top), (("num", 0, 100, -2), ("num", 0, 990, 2))),
            (SMALL, (10, 2, -1, 0), ("span", tiny, top), (("num", 0, 0, -1), TOP)),
            (SMALL, (10, 2, -1, 0), ("span", ("num", 1, 99, 3), ("num", 1, 1, -3)), (BOTTOM, ("num", 0, 0, -1))),
            (SMALL, (10, 2, -1, 0), ("span", ("num", 0, 98, 3), top), (("num", 0, 99, 0), TOP)),
            (SMALL, (10, 2, -1, 0), ("span", BOTTOM, ("num", 1, 98, 3)), (BOTTOM, ("num", 1, 99, 0))),
            (SMALL, (2, 4, -4, 2), ("span", ("num", 0, 11, -1), ("num", 0, 11, -1)), (("num", 0, 8, -3), ("num", 0, 9, -3))),
        ):
            self.assertEqual(span_into(form, other, span), ("span",) + told)

    def test_sides(self):
        for form in (FEW, (10, 2, 1, 2), BITS):
            spans = some_of(spans_among(form, 40), 60) + [WHOLE]
            for one in spans:
                self.assertEqual([side_of(form, one, NO_NUMBERS), side_of(form, NO_NUMBERS, one)], ["none", "none"])
                for other in spans:
                    expected = "open"
                    if one[2] != TOP and other[1] != BOTTOM and worth_of(form, one[2]) < worth_of(form, other[1]):
                        expected = "less"
                    elif one[1] != BOTTOM and other[2] != TOP and worth_of(form, one[1]) >= worth_of(form, other[2]):
                        expected = "not"
                    self.assertEqual(side_of(form, one, other), expected)
            self.assertEqual(side_of(form, NO_NUMBERS, NO_NUMBERS), "none")

    def test_known_sides(self):
        for one, other, told, back in (
            ((ONE, TWO), (TWO, THREE), "open", "not"), ((ONE, ONE), (ONE, ONE), "not", "not"), ((ONE, ONE), (TWO, TWO), "less", "not"),
            ((BOTTOM, ONE), (ONE, TOP), "open", "not"), ((BOTTOM, ONE), (TWO, TOP), "less", "not"), ((ONE, TOP), (TWO, TOP), "open", "open"),
            ((BOTTOM, ONE), (BOTTOM, ONE), "open", "open"), ((BOTTOM, TOP), (ONE, ONE), "open", "open"), ((ONE, THREE), (TWO, TWO), "open", "open"),
            ((ZERO, ZERO), (ZERO, ZERO), "not", "not"), ((MINUS_ONE, ZERO), (ZERO, ONE), "open", "not"), ((MINUS_TWO, MINUS_ONE), (ZERO, TOP), "less", "not"),
        ):
            one, other = ("span",) + one, ("span",) + other
            self.assertEqual([side_of(SMALL, one, other), side_of(SMALL, other, one)], [told, back])

    def test_sides_by_points(self):
        random = Random(39)
        for _ in range(300):
            one, other = drawn_span(random, BITS, True), drawn_span(random, BITS, True)
            pairs = [(worth_of(BITS, x), worth_of(BITS, y)) for x in numbers_within(BITS, one) for y in numbers_within(BITS, other)]
            lesser = [x < y for x, y in pairs]
            self.assertEqual(side_of(BITS, one, other), "less" if all(lesser) else "open" if any(lesser) else "not")

    def test_large_formats(self):
        for form in LARGE_FORMATS + LARGEST_FORMATS:
            spans = spans_of_large(form, 5, 7)
            for one in spans:
                low, high = [worth_of(form, end) for end in one[1:]]
                self.assertEqual(width_of(form, one), pair_of(high - low))
                self.assertEqual(number_of(form, pair_of(low)), one[1])
                for other in spans:
                    ends = [worth_of(form, end) for end in other[1:]]
                    self.assertIs(lies_in(form, one, other), ends[0] <= low and high <= ends[1])
                    hulled, met = hull(form, one, other), meet(form, one, other)
                    self.assertEqual([worth_of(form, end) for end in hulled[1:]], [min(low, ends[0]), max(high, ends[1])])
                    if max(low, ends[0]) <= min(high, ends[1]):
                        self.assertEqual([worth_of(form, end) for end in met[1:]], [max(low, ends[0]), min(high, ends[1])])
                    else:
                        self.assertEqual(met, NO_NUMBERS)


if __name__ == "__main__":
    unittest.main()
