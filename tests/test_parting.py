"""[42]: boxes parted."""

import unittest
from random import Random

from drawn import (
    BOTTOM, NO_NUMBERS, PARTS, TOP, WHOLE, drawn_program, drawn_span, numbers_within, plain_numbers, spans_among, spans_of_large,
)
from nearestheld.enclosed import result_within
from nearestheld.forms import is_box, is_number
from nearestheld.formats import rank_of, value_at
from nearestheld.parting import middle_of, parted_box, parted_result, widest
from nearestheld.spans import hull, lies_in
from reference import LARGE_FORMATS, LARGEST_FORMATS, SMALL_FORMATS
from things import picture

SMALL, BITS = (10, 2, -3, 3), (2, 3, -2, 1)
ZERO, TINY, ONE, TWO, THREE = ("num", 0, 0, -3), ("num", 0, 1, -3), ("num", 0, 10, -1), ("num", 0, 20, -1), ("num", 0, 30, -1)
HILL = (1, (("input", 0), ("told", (2, 1)), ("take", 1, 0), ("times", 0, 2)))


def rank_in(form, end):
    """The RANK of an end, counted among all NUMBERS of a small FORMAT."""
    many = len(plain_numbers(form))
    if end[0] == "inf":
        return (many // 2 + 1) * (1 - 2 * end[1])
    return plain_numbers(form).index(end) - many // 2


def value_in(form, rank):
    return plain_numbers(form)[rank + len(plain_numbers(form)) // 2]


def steps_in(form, span):
    return 0 if span == NO_NUMBERS else rank_in(form, span[2]) - rank_in(form, span[1])


def expected_middle(form, span):
    if steps_in(form, span) < 2:
        return None
    return value_in(form, (rank_in(form, span[1]) + rank_in(form, span[2])) // 2)


def expected_widest(form, box):
    steps = [steps_in(form, span) for span in box]
    return steps.index(max(steps)) if steps and max(steps) >= 2 else None


def expected_halves(form, box, index):
    middle = expected_middle(form, box[index])
    if middle is None:
        return None
    _, low, high = box[index]
    parts = []
    for span in (("span", low, middle), ("span", middle, high)):
        part = list(box)
        part[index] = span
        parts.append(tuple(part))
    return tuple(parts)


class Middles(unittest.TestCase):
    def test_all_spans_of_small_formats(self):
        for form in SMALL_FORMATS:
            for span in spans_among(form, 20) + [NO_NUMBERS, WHOLE]:
                told = middle_of(form, span)
                self.assertEqual(told, expected_middle(form, span))
                if told is not None:
                    self.assertIs(is_number(form, told), True)
                    self.assertFalse(told in span)

    def test_odd_sums_also_below_0(self):
        for low, high, middle in ((1, 4, 2), (-4, -1, -3), (-4, 1, -2), (-1, 4, 1), (-2, 1, -1), (-1, 2, 0), (0, 3, 1), (-3, 0, -2), (5, 7, 6), (-7, -5, -6)):
            span = ("span", value_at(BITS, low), value_at(BITS, high))
            self.assertEqual(middle_of(BITS, span), value_at(BITS, middle))

    def test_ranks_that_differ_by_0_1_and_2(self):
        for low in range(-20, 19):
            for steps in range(3):
                if -20 <= low + steps <= 20 and (low, steps) not in ((-20, 0), (20, 0)):
                    span = ("span", value_at(BITS, low), value_at(BITS, low + steps))
                    self.assertEqual(middle_of(BITS, span), value_at(BITS, low + 1) if steps == 2 else None)

    def test_known_ones(self):
        greatest = ("num", 0, 99, 3)
        for span, told in (
            (("span", ONE, THREE), TWO), (WHOLE, ZERO), (("span", ZERO, TINY), None), (("span", ONE, ONE), None), (NO_NUMBERS, None),
            (("span", ("num", 1, 30, -1), THREE), ZERO), (("span", greatest, TOP), None), (("span", ("num", 0, 98, 3), TOP), greatest),
            (("span", BOTTOM, ("num", 1, 99, 3)), None), (("span", BOTTOM, ("num", 1, 98, 3)), ("num", 1, 99, 3)), (("span", ZERO, ONE), ("num", 0, 95, -3)),
        ):
            self.assertEqual(middle_of(SMALL, span), told)

    def test_large_formats(self):
        for form in LARGE_FORMATS + LARGEST_FORMATS:
            for span in spans_of_large(form, 6, 3) + [WHOLE, ("span", ("num", 0, 0, form[2]), TOP)]:
                low, high = [rank_of(form, end) for end in span[1:]]
                expected = None if high - low < 2 else value_at(form, (low + high) // 2)
                self.assertEqual(middle_of(form, span), expected)
            self.assertEqual(middle_of(form, WHOLE), ("num", 0, 0, form[2]))


class Boxes(unittest.TestCase):
    def test_widest(self):
        random = Random(42)
        for _ in range(600):
            form = random.choice(SMALL_FORMATS[:6] + (BITS,))
            box = tuple([drawn_span(random, form) for _ in range(random.randint(0, 6))])
            self.assertEqual(widest(form, box), expected_widest(form, box))

    def test_widest_known_ones(self):
        small, large, point = ("span", ONE, TWO), ("span", ONE, THREE), ("span", ONE, ONE)
        next_ones = ("span", ONE, ("num", 0, 11, -1))
        for box, told in (
            ((), None), ((point, point), None), ((NO_NUMBERS,), None), ((NO_NUMBERS, NO_NUMBERS, small), 2), ((small, large, large), 1),
            ((large, small, large), 0), ((point, next_ones), None), ((next_ones, small), 1), ((large, WHOLE), 1), ((WHOLE, WHOLE), 0),
            ((NO_NUMBERS, point, next_ones), None), ((("span", ONE, ("num", 0, 12, -1)), next_ones), 0), ((small, NO_NUMBERS, small), 0),
            # By RANKS, not by widths.
            ((("span", ZERO, ONE), ("span", ("num", 0, 10, 1), ("num", 0, 99, 1))), 0),
        ):
            self.assertEqual(widest(SMALL, box), told)

    def test_parted_box(self):
        random = Random(43)
        for _ in range(300):
            form = random.choice(SMALL_FORMATS[:6] + (BITS,))
            box = tuple([drawn_span(random, form) for _ in range(random.randint(1, 5))])
            before = picture(box)
            for index in range(len(box)):
                told = parted_box(form, box, index)
                self.assertEqual(told, expected_halves(form, box, index))
                if told is not None:
                    self.assertEqual([told.__class__, len(told)], [tuple, 2])
                    self.assertTrue(all([is_box(form, len(box), part) for part in told]))
                    self.assertEqual(told[0][index][2], told[1][index][1])
                    self.assertEqual(hull(form, told[0][index], told[1][index]), box[index])
            self.assertEqual(picture(box), before)

    def test_parted_box_known_ones(self):
        box = (("span", ONE, TWO), NO_NUMBERS, ("span", ONE, THREE), ("span", ONE, ONE))
        self.assertEqual(parted_box(SMALL, box, 2), (box[:2] + (("span", ONE, TWO),) + box[3:], box[:2] + (("span", TWO, THREE),) + box[3:]))
        self.assertEqual([parted_box(SMALL, box, index) for index in (1, 3)], [None, None])


class Results(unittest.TestCase):
    def expected(self, program, form, box, deep):
        index = expected_widest(form, box)
        if deep == 0 or index is None:
            return result_within(program, form, box)
        rows = [self.expected(program, form, part, deep - 1) for part in expected_halves(form, box, index)]
        return (hull(form, rows[0][0], rows[1][0]), rows[0][1] and rows[1][1])

    def test_each_depth(self):
        random = Random(44)
        for _ in range(60):
            form = random.choice(SMALL_FORMATS[:6] + (BITS,))
            program = drawn_program(random, tuple(PARTS), random.randint(1, 3), random.randint(4, 10))
            box = tuple([drawn_span(random, form) for _ in range(program[0])])
            before = picture([program, box])
            ahead = None
            for deep in (0, 1, 2, 6) if random.random() < 0.2 else (0, 1, 2, 3):
                told = parted_result(program, form, box, deep)
                self.assertEqual(told, self.expected(program, form, box, deep))
                self.assertEqual([told.__class__, told[1].__class__], [tuple, bool])
                if ahead is not None:
                    self.assertIs(lies_in(form, told[0], ahead[0]), True)
                    self.assertTrue(told[1] or not ahead[1])
                ahead = told
            self.assertEqual(picture([program, box]), before)

    def test_known_ones(self):
        box = (("span", ONE, TWO),)
        highs = {0: TWO, 1: ("num", 0, 15, -1), 2: ("num", 0, 12, -1), 3: ("num", 0, 11, -1), 4: ("num", 0, 11, -1)}
        for deep, high in highs.items():
            self.assertEqual(parted_result(HILL, SMALL, box, deep), (("span", ZERO, high), True))
        # 1 by what is parted at 0: a part that has 0 as an end has no truth, too.
        by = (1, (("input", 0), ("told", (1, 1)), ("by", 1, 0)))
        self.assertEqual(parted_result(by, SMALL, (("span", ("num", 1, 10, -1), ONE),), 2), (WHOLE, False))

    def test_boxes_that_cannot_be_parted(self):
        for box in ((("span", ONE, ONE),), (NO_NUMBERS,), (("span", ONE, ("num", 0, 11, -1)),)):
            for deep in (0, 1, 6):
                self.assertEqual(parted_result(HILL, SMALL, box, deep), result_within(HILL, SMALL, box))
        self.assertEqual(parted_result((0, (("told", (1, 2)),)), SMALL, (), 6), (("span", ("num", 0, 50, -2), ("num", 0, 50, -2)), True))
        plus = (2, (("input", 0), ("input", 1), ("add", 0, 1)))
        for deep in (0, 1, 3):
            self.assertEqual(parted_result(plus, SMALL, (NO_NUMBERS, ("span", ONE, THREE)), deep), (NO_NUMBERS, True))

    def test_all_numbers_within_are_in_a_part(self):
        for box in ((("span", ONE, TWO), ("span", ZERO, TINY)), (("span", ZERO, THREE), ("span", ONE, TWO))):
            parts = [box]
            for _ in range(3):
                parts = [half for part in parts for half in parted_box(SMALL, part, widest(SMALL, part))]
            for at in range(2):
                found = [number for part in parts for number in numbers_within(SMALL, part[at])]
                self.assertEqual(set(found), set(numbers_within(SMALL, box[at])))


if __name__ == "__main__":
    unittest.main()
