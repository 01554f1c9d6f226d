"""[41]: programs over boxes; [8]: what is told of them is true for all inputs within."""

import unittest
from fractions import Fraction
from random import Random

from drawn import (
    BOTTOM, NO_NUMBERS, PARTS, PLAIN_WORDS, SPAN_WORDS, TOP, WHOLE, drawn_program, drawn_span, each_word_program, numbers_within,
    spans_of_large,
)
from nearestheld.enclosed import enclosed, result_within
from nearestheld.forms import is_span
from nearestheld.spanops import span_result
from nearestheld.spans import holds, hull, lies_in, side_of, span_of
from nearestheld.truth import true_bounds, true_worths
from reference import LARGE_FORMATS, SMALL_FORMATS, pair_of, worth_of
from things import picture

SMALL = (10, 2, -3, 3)
ZERO, ONE, TWO, THREE = ("num", 0, 0, -3), ("num", 0, 10, -1), ("num", 0, 20, -1), ("num", 0, 30, -1)
MINUS_ONE, FOUR = ("num", 1, 10, -1), ("num", 0, 40, -1)


def point(number):
    return ("span", number, number)


def expected_enclosed(program, form, box):
    """What the document tells, step by step, of operations and sides that are tested on their own."""
    found = []
    for word, *parts in program[1]:
        rows = [found[part] for part in parts] if word not in ("input", "told") else []
        if word == "input":
            found.append((box[parts[0]], True))
        elif word == "told":
            found.append((span_of(form, parts[0], parts[0]), True))
        elif word == "if":
            (a, _), (b, _), (c, _), (d, _) = rows
            side = side_of(form, a, b)
            span = {"less": c, "not": d, "none": NO_NUMBERS, "open": hull(form, c, d)}[side]
            asked = {"less": (0, 1, 2), "not": (0, 1, 3), "none": (0, 1), "open": (0, 1, 2, 3)}[side]
            found.append((span, all([rows[at][1] for at in asked])))
        else:
            span, truth = span_result(form, word, tuple([span for span, _ in rows]))
            found.append((span, truth and all([truth for _, truth in rows])))
    return found


def drawn_inputs(random, form, box):
    """Inputs WITHIN a BOX of SPANS that HOLD something: ends, NUMBERS, and what lies between them."""
    found = []
    for span in box:
        numbers = numbers_within(form, span)
        one, other = [worth_of(form, number) for number in random.choices(numbers, k=2)]
        x = one + (other - one) * Fraction(random.randint(0, 7), 7)
        if span[2] == TOP and random.random() < 0.3:
            x = abs(x) * 10 ** 9 + 10 ** 9
        if span[1] == BOTTOM and random.random() < 0.3:
            x = -abs(x) * 10 ** 9 - 10 ** 9
        found.append(pair_of(x))
    return tuple(found)


class Enclosed(unittest.TestCase):
    def check(self, program, form, box):
        before = picture([program, box])
        told = enclosed(program, form, box)
        self.assertEqual(told, expected_enclosed(program, form, box))
        self.assertEqual(result_within(program, form, box), told[-1])
        self.assertEqual(told.__class__, list)
        for row in told:
            self.assertEqual([row.__class__, len(row), row[1].__class__], [tuple, 2, bool])
            self.assertIs(is_span(form, row[0]), True)
        self.assertEqual(picture([program, box]), before)
        told.reverse()
        self.assertEqual(enclosed(program, form, box), told[::-1])
        return told[::-1]

    def test_each_word(self):
        random = Random(41)
        for program in each_word_program(tuple(PARTS)):
            for _ in range(50):
                form = random.choice(SMALL_FORMATS)
                self.check(program, form, tuple([drawn_span(random, form) for _ in range(3)]))

    def test_drawn_programs(self):
        random = Random(42)
        sides, truths = {}, {}
        for _ in range(400):
            form = random.choice(SMALL_FORMATS + (SMALL,))
            program = drawn_program(random, tuple(PARTS) + ("if",) * 3, random.randint(0, 4), random.randint(4, 30))
            box = tuple([drawn_span(random, form) for _ in range(program[0])])
            told = self.check(program, form, box)
            for step, (_, truth) in zip(program[1], told):
                if step[0] == "if":
                    sides[side_of(form, told[step[1]][0], told[step[2]][0])] = True
                    truths[truth] = True
        self.assertEqual([len(sides), len(truths)], [4, 2])

    def test_large_formats(self):
        random = Random(43)
        for form in LARGE_FORMATS:
            spans = spans_of_large(form, 6, 9) + [NO_NUMBERS, WHOLE]
            for _ in range(15):
                program = drawn_program(random, tuple(PARTS), 3, 14)
                self.check(program, form, tuple(random.choices(spans, k=3)))

    def test_no_inputs_and_what_is_told(self):
        third = ("span", ("num", 0, 33, -2), ("num", 0, 34, -2))
        self.assertEqual(self.check((0, (("told", (1, 3)),)), SMALL, ()), [(third, True)])
        self.assertEqual(self.check((0, (("told", (0, 1)), ("by", 0, 0))), SMALL, ()), [(point(ZERO), True), (NO_NUMBERS, False)])
        self.assertEqual(self.check((0, (("told", (10 ** 9, 1)),)), SMALL, ()), [(("span", ("num", 0, 99, 3), TOP), True)])
        self.assertEqual(result_within((0, (("told", (-1, 10 ** 9)),)), SMALL, ()), (("span", ("num", 1, 1, -3), ZERO), True))

    def test_ifs_on_each_side(self):
        # Steps 0 to 5: the inputs, 1, 4, what may have no worth, and what has none.
        steps = (("input", 0), ("input", 1), ("told", (1, 1)), ("told", (4, 1)), ("by", 2, 1), ("take", 2, 2), ("by", 2, 5))
        low, high, across = ("span", ONE, TWO), ("span", THREE, FOUR), ("span", MINUS_ONE, TWO)
        for one, other, c, d, span, truth in (
            (low, high, 2, 3, point(ONE), True), (high, low, 2, 3, point(FOUR), True), (low, low, 2, 3, ("span", ONE, FOUR), True),
            (low, ("span", TWO, TWO), 2, 3, ("span", ONE, FOUR), True), (point(TWO), low, 2, 3, point(FOUR), True), (point(TWO), point(TWO), 2, 3, point(FOUR), True),
            (NO_NUMBERS, low, 2, 3, NO_NUMBERS, True), (low, NO_NUMBERS, 2, 3, NO_NUMBERS, True), (WHOLE, low, 2, 3, ("span", ONE, FOUR), True),
            # The truth of what is needed, and of what is not.
            (low, high, 6, 3, NO_NUMBERS, False), (low, high, 3, 6, point(FOUR), True), (high, low, 6, 3, point(FOUR), True),
            (high, low, 3, 6, NO_NUMBERS, False), (low, low, 6, 3, point(FOUR), False), (low, low, 3, 6, point(FOUR), False),
            (point(ONE), across, 4, 3, WHOLE, False), (NO_NUMBERS, low, 6, 6, NO_NUMBERS, True),
        ):
            told = self.check((2, steps + (("if", 0, 1, c, d),)), SMALL, (one, other))
            self.assertEqual(told[-1], (span, truth))
        # A comparison of what may have no worth.
        for a, b in ((4, 0), (0, 4)):
            told = self.check((2, steps + (("if", a, b, 2, 2),)), SMALL, (("span", THREE, FOUR), across))
            self.assertEqual(told[-1], (point(ONE), False))
        told = self.check((2, steps + (("if", 6, 0, 2, 2),)), SMALL, (low, low))
        self.assertEqual(told[-1], (NO_NUMBERS, False))

    def test_steps_that_are_not_needed(self):
        steps = (("input", 0), ("by", 0, 0), ("add", 0, 0))
        self.assertEqual(self.check((1, steps), SMALL, (("span", ZERO, ONE),))[1:], [(("span", ZERO, TOP), False), (("span", ZERO, TWO), True)])

    def test_truths_are_carried_on(self):
        steps = (("input", 0), ("told", (1, 1)), ("by", 1, 0), ("size", 2), ("least", 1, 3), ("fused", 1, 1, 4))
        told = self.check((1, steps), SMALL, (("span", MINUS_ONE, ONE),))
        self.assertEqual([truth for _, truth in told], [True, True, False, False, False, False])
        told = self.check((1, steps), SMALL, (("span", ONE, TWO),))
        self.assertEqual([truth for _, truth in told], [True] * 6)

    def test_boxes_of_points_and_of_no_numbers(self):
        random = Random(44)
        for _ in range(60):
            program = drawn_program(random, PLAIN_WORDS, 2, 12)
            for box in ((point(ONE), point(TWO)), (NO_NUMBERS, point(ONE)), (NO_NUMBERS, NO_NUMBERS), (WHOLE, WHOLE)):
                self.check(program, SMALL, box)
        self.assertEqual(result_within((2, (("input", 0), ("input", 1), ("add", 0, 1))), SMALL, (NO_NUMBERS, WHOLE)), (NO_NUMBERS, True))

    def test_true_worths_are_held(self):
        random = Random(45)
        seen = 0
        for _ in range(250):
            form = random.choice(SMALL_FORMATS + (SMALL,))
            program = drawn_program(random, PLAIN_WORDS, random.randint(1, 3), random.randint(4, 20))
            box = tuple([drawn_span(random, form) for _ in range(program[0])])
            if NO_NUMBERS in box:
                continue
            told = enclosed(program, form, box)
            for _ in range(8):
                inputs = drawn_inputs(random, form, box)
                for (span, truth), x in zip(told, true_worths(program, inputs)):
                    seen += truth
                    self.assertTrue(not truth if x is None else holds(form, span, x))
        self.assertGreater(seen, 3000)

    def test_true_worths_with_roots_are_held(self):
        random = Random(46)
        seen = 0
        for _ in range(150):
            form = random.choice(SMALL_FORMATS + (SMALL,))
            words = tuple([word for word in SPAN_WORDS if word not in ("by", "take", "opposite")])
            program = drawn_program(random, words, 2, random.randint(3, 10))
            box = tuple([drawn_span(random, form, True) for _ in range(2)])
            span, truth = result_within(program, form, box)
            for _ in range(3):
                inputs = drawn_inputs(random, form, box)
                bounds = true_bounds(program, inputs, 30)
                if bounds is None:
                    self.assertIs(truth, False)
                    continue
                # Some number of the bounds is the TRUE worth, so that they and the SPAN meet.
                self.assertFalse(span == NO_NUMBERS)
                low, high = [Fraction(*x) for x in bounds]
                self.assertTrue(span[1] == BOTTOM or worth_of(form, span[1]) <= high)
                self.assertTrue(span[2] == TOP or low <= worth_of(form, span[2]))
                seen += 1
        self.assertGreater(seen, 100)

    def test_boxes_in_boxes(self):
        random = Random(47)
        for _ in range(250):
            form = random.choice(SMALL_FORMATS)
            program = drawn_program(random, tuple(PARTS), random.randint(1, 3), random.randint(4, 20))
            outer = tuple([drawn_span(random, form) for _ in range(program[0])])
            inner = []
            for span in outer:
                numbers = numbers_within(form, span)
                low, high = sorted(random.choices(range(len(numbers)), k=2)) if numbers else (0, 0)
                inner.append(random.choice([span, NO_NUMBERS] + ([("span", numbers[low], numbers[high])] * 4 if numbers else [])))
            for one, other in zip(enclosed(program, form, tuple(inner)), enclosed(program, form, outer)):
                self.assertIs(lies_in(form, one[0], other[0]), True)


if __name__ == "__main__":
    unittest.main()
