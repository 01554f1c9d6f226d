"""[45]: papers, and the RULE of each step."""

import unittest
from fractions import Fraction
from math import isqrt
from random import Random

from drawn import NO_NUMBERS, PARTS, TOP, BOTTOM, drawn_program, drawn_span, spans_of_large
from nearestheld.bounding import error_paper
from nearestheld.errorpapers import far_of, near_of, rule_kept
from nearestheld.errors import CannotTell
from nearestheld.rounding import most_error
from nearestheld.spanops import span_result
from nearestheld.spans import holds, lies_in
from reference import LARGE_FORMATS, SMALL_FORMATS, WAYS, outcome_in_large, pair_of, worth_of
from things import picture

SMALL, BITS, WIDE = (10, 2, -3, 3), (2, 3, -2, 1), (2, 6, -9, 4)
ZERO, TINY, HALF, ONE, TWO, THREE, FOUR = ("num", 0, 0, -3), ("num", 0, 1, -3), ("num", 0, 50, -2), ("num", 0, 10, -1), ("num", 0, 20, -1), ("num", 0, 30, -1), ("num", 0, 40, -1)
MINUS_ONE, MINUS_TWO, TOP_NUMBER = ("num", 1, 10, -1), ("num", 1, 20, -1), ("num", 0, 99, 3)
LITTLE = Fraction(1, 10 ** 2000)


def ends_of(form, span):
    return [worth_of(form, end) for end in span[1:]]


def far(form, span):
    return max(abs(x) for x in ends_of(form, span))


def near(form, span):
    low, high = ends_of(form, span)
    return Fraction(0) if low <= 0 <= high else min(abs(low), abs(high))


def rounding_error(form, way, x):
    told = most_error(form, way, pair_of(x))
    return None if told is None else Fraction(*told)


def root_down(form, x):
    """The worth of the root of a Fraction above 0, ROUNDED "down"."""
    base, digits, low, high = form
    whole = [isqrt(int(x / Fraction(base) ** (2 * low)))]
    # Each further e takes one digit away; whole numbers of e from low on are enough, as what is cut off stays cut off.
    while whole[-1] >= base ** digits:
        whole.append(whole[-1] // base)
    e = low + len(whole) - 1
    return whole[-1] * Fraction(base) ** e if e <= high else (base ** digits - 1) * Fraction(base) ** high


def carried(form, word, rows, span):
    """D in the words of the document, None if there is none; rows are (SPAN, Fraction)."""
    errors = [error for _, error in rows]
    if word in ("add", "take"):
        return errors[0] + errors[1]
    if word in ("times", "fused"):
        product = far(form, rows[0][0]) * errors[1] + far(form, rows[1][0]) * errors[0] + errors[0] * errors[1]
        return product if word == "times" else product + errors[2]
    if word == "by":
        nearest = near(form, rows[1][0]) - errors[1]
        return None if nearest <= 0 else (errors[0] + far(form, span) * errors[1]) / nearest
    if errors[0] == 0:
        return Fraction(0)
    least = ends_of(form, rows[0][0])[0] - errors[0]
    root = root_down(form, least) if least > 0 else 0
    return None if root == 0 else errors[0] / (2 * root)


def expected_rule(program, form, way, box, paper, index):
    """Whether a step keeps its RULE, in the words of the document."""
    word, *parts = program[1][index]
    span, error = paper[index][0], Fraction(*paper[index][1])
    if word == "input":
        return lies_in(form, box[parts[0]], span)
    if word == "told":
        x = Fraction(*parts[0])
        value, flags = outcome_in_large(form, way, x, 0)
        return holds(form, span, parts[0]) and "over" not in flags and error >= abs(x - worth_of(form, value))
    rows = [(paper[part][0], Fraction(*paper[part][1])) for part in parts]
    if word == "if":
        (a, a_error), (b, b_error), (c, c_error), (d, d_error) = rows
        low_a, high_a, low_b, high_b = ends_of(form, a) + ends_of(form, b)
        if high_a + a_error < low_b - b_error and lies_in(form, c, span) and error >= c_error:
            return True
        if low_a - a_error >= high_b + b_error and lies_in(form, d, span) and error >= d_error:
            return True
        return parts[2] == parts[3] and lies_in(form, c, span) and lies_in(form, d, span) and error >= c_error
    told, truth = span_result(form, word, tuple([one for one, _ in rows]))
    if not lies_in(form, told, span):
        return False
    if word in ("opposite", "size", "least", "greatest"):
        return all(error >= one for _, one in rows)
    d = carried(form, word, rows, span)
    rounding = None if d is None else rounding_error(form, way, far(form, span) + d)
    return truth and rounding is not None and error >= d + rounding


def paper_of(*rows):
    return tuple([(span, pair_of(Fraction(error))) for span, error in rows])


class Sizes(unittest.TestCase):
    def test_far_and_near(self):
        for low, high, least, greatest in (
            (ONE, THREE, (1, 1), (3, 1)), (MINUS_TWO, MINUS_ONE, (1, 1), (2, 1)), (MINUS_TWO, ONE, (0, 1), (2, 1)), (MINUS_ONE, TWO, (0, 1), (2, 1)),
            (ZERO, TWO, (0, 1), (2, 1)), (MINUS_TWO, ZERO, (0, 1), (2, 1)), (ZERO, ZERO, (0, 1), (0, 1)), (HALF, HALF, (1, 2), (1, 2)),
            (MINUS_ONE, MINUS_ONE, (1, 1), (1, 1)), (MINUS_ONE, ONE, (0, 1), (1, 1)),
        ):
            self.assertEqual([near_of(SMALL, ("span", low, high)), far_of(SMALL, ("span", low, high))], [least, greatest])

    def test_drawn_ones(self):
        random = Random(45)
        cases = [(form, drawn_span(random, form, True)) for form in SMALL_FORMATS for _ in range(40)]
        cases += [(form, span) for form in LARGE_FORMATS for span in spans_of_large(form, 6, 11)]
        for form, span in cases:
            self.assertEqual([near_of(form, span), far_of(form, span)], [pair_of(near(form, span)), pair_of(far(form, span))])


class Rules(unittest.TestCase):
    def check(self, program, form, way, box, paper, index, expected=None):
        before = picture([program, box, paper])
        told = rule_kept(program, form, way, box, paper, index)
        self.assertIs(told, expected_rule(program, form, way, box, paper, index), (program, way, paper, index))
        if expected is not None:
            self.assertIs(told, expected)
        self.assertEqual(picture([program, box, paper]), before)
        return told

    def check_least(self, form, way, step, rows, span, error, box=()):
        """Check that of a step behind rows just the FRACTIONS from error on are let with a SPAN; none if error is None."""
        steps = tuple([("told", (0, 1))] * len(rows)) + (step,)
        ahead = paper_of(*rows)
        for one, told in ((error, True), (None if error is None else Fraction(error) + LITTLE, True), (None if error is None else Fraction(error) - LITTLE, False)):
            if one is None:
                self.check((len(box), steps), form, way, box, ahead + paper_of((span, 10 ** 9)), len(rows), False)
            elif one >= 0:
                self.check((len(box), steps), form, way, box, ahead + paper_of((span, one)), len(rows), told)

    def test_drawn_papers(self):
        random = Random(46)
        kept, broken = {}, {}
        for _ in range(700):
            form, way = random.choice((SMALL, BITS, WIDE) + SMALL_FORMATS[:4]), random.choice(WAYS)
            program = drawn_program(random, tuple(PARTS), random.randint(1, 3), random.randint(4, 8))
            box = tuple([drawn_span(random, form, True) for _ in range(program[0])])
            rows = []
            for at, step in enumerate(program[1]):
                # A paper that is made as far as it can be, then anything.
                error = Fraction(random.choice((0, 0, 1, 5, 40)), random.choice((1, 7, 40)))
                rows.append((drawn_span(random, form, True), pair_of(error)))
                try:
                    rows[at] = error_paper((program[0], program[1][:at + 1]), form, way, box)[at] if random.random() < 0.8 else rows[at]
                except CannotTell:
                    pass
            for at, step in enumerate(program[1]):
                told = self.check(program, form, way, box, tuple(rows), at)
                seen = kept if told else broken
                seen[step[0]] = seen.get(step[0], 0) + 1
        self.assertEqual([set(kept), set(broken)], [set(PARTS) | {"input", "told"}] * 2)

    def test_inputs(self):
        program, box = (2, (("input", 1),)), (("span", ONE, ONE), ("span", ONE, TWO))
        for span, told in ((("span", ONE, TWO), True), (("span", ZERO, THREE), True), (("span", ONE, ONE), False), (("span", ("num", 0, 11, -1), TWO), False),
                           (("span", ONE, ("num", 0, 19, -1)), False)):
            for error in (0, 1):
                self.check(program, SMALL, "even", box, paper_of((span, error)), 0, told)

    def test_told_ones(self):
        for fraction, way, span, error in (
            ((1, 2), "even", (HALF, HALF), 0), ((1, 3), "even", (("num", 0, 33, -2), ("num", 0, 34, -2)), Fraction(1, 300)),
            ((1, 3), "up", (ZERO, ONE), Fraction(1, 150)), ((-1, 3), "up", (MINUS_ONE, ZERO), Fraction(1, 300)), ((0, 1), "even", (ZERO, ZERO), 0),
            ((1, 10 ** 6), "even", (ZERO, TINY), Fraction(1, 10 ** 6)), ((99000, 1), "even", (TOP_NUMBER, TOP_NUMBER), 0),
            # The SPAN does not HOLD it, or it goes OVER.
            ((1, 3), "even", (("num", 0, 34, -2), ONE), None), ((1, 3), "even", (ZERO, ("num", 0, 33, -2)), None), ((10 ** 6, 1), "zero", (ONE, TOP_NUMBER), None),
            ((99001, 1), "even", (ONE, TOP_NUMBER), None),
        ):
            self.check_least(SMALL, way, ("told", fraction), (), ("span",) + span, error)
        # What a SPAN of another FORMAT HOLDS may go OVER by one WAY, and not by another one.
        self.assertIs(rule_kept((0, (("told", (-99001, 1)),)), SMALL, "up", (), paper_of((("span", ("num", 1, 99, 3), ZERO), 10)), 0), False)

    def test_sums(self):
        one, two = ("span", ONE, TWO), ("span", TWO, THREE)
        for word, rows, span, error in (
            ("add", ((one, 0), (two, 0)), (THREE, ("num", 0, 50, -1)), Fraction(1, 20)), ("add", ((one, 1), (two, 2)), (THREE, ("num", 0, 50, -1)), Fraction(61, 20)),
            ("add", ((one, 3), (two, 2)), (THREE, ("num", 0, 50, -1)), 5 + Fraction(1, 2)), ("take", ((one, 0), (two, 0)), (MINUS_TWO, ZERO), Fraction(1, 20)),
            ("take", ((one, Fraction(1, 3)), (two, Fraction(1, 7))), (MINUS_TWO, ZERO), Fraction(10, 21) + Fraction(1, 20)),
            ("add", ((one, 0), (two, 0)), (ZERO, ("num", 0, 50, -1)), Fraction(1, 20)), ("add", ((one, 0), (two, 0)), (ZERO, ("num", 0, 15, 0)), Fraction(1, 2)),
            # Narrower SPANS are not let.
            ("add", ((one, 0), (two, 0)), (THREE, ("num", 0, 49, -1)), None), ("add", ((one, 0), (two, 0)), (("num", 0, 31, -1), ("num", 0, 50, -1)), None),
        ):
            self.check_least(SMALL, "even", (word, 0, 1), rows, ("span",) + span, error)
        for way, error in (("even", Fraction(1, 20)), ("away", Fraction(1, 20)), ("up", Fraction(1, 10)), ("down", Fraction(1, 10)), ("zero", Fraction(1, 10))):
            self.check_least(SMALL, way, ("add", 0, 1), ((one, 0), (two, 0)), ("span", THREE, ("num", 0, 50, -1)), error)

    def test_what_may_go_over(self):
        top, one = ("span", TOP_NUMBER, TOP_NUMBER), ("span", ZERO, ONE)
        for error, told in ((0, 500), (499, 999), (Fraction(4999, 10), 500 + Fraction(4999, 10)), (500, None), (10 ** 5, None)):
            self.check_least(SMALL, "even", ("times", 0, 1), ((top, error), (("span", ONE, ONE), 0)), top, told)
        for way, told in (("up", 1000), ("zero", 1000), ("even", 500)):
            self.check_least(SMALL, way, ("times", 0, 1), ((top, 0), (("span", ONE, ONE), 0)), top, told)
        self.check_least(SMALL, "up", ("times", 0, 1), ((top, LITTLE), (("span", ONE, ONE), 0)), top, None)
        self.check_least(SMALL, "zero", ("times", 0, 1), ((top, LITTLE), (("span", ONE, ONE), 0)), top, 1000 + LITTLE)
        self.check_least(SMALL, "even", ("add", 0, 1), ((top, 0), (one, 0)), top, None)

    def test_products(self):
        one, two, across = ("span", ONE, TWO), ("span", TWO, THREE), ("span", MINUS_TWO, ONE)
        x, y, z = Fraction(1, 3), Fraction(1, 7), Fraction(1, 11)
        both = 2 * y + 3 * x + x * y
        self.check_least(SMALL, "even", ("times", 0, 1), ((one, x), (two, y)), ("span", TWO, ("num", 0, 60, -1)), both + Fraction(1, 20))
        self.check_least(SMALL, "even", ("fused", 0, 1, 2), ((one, x), (two, y), (across, z)), ("span", ZERO, ("num", 0, 70, -1)), both + z + Fraction(1, 20))
        self.check_least(SMALL, "even", ("fused", 0, 1, 2), ((one, x), (two, y), (across, 2)), ("span", ZERO, ("num", 0, 70, -1)), both + 2 + Fraction(1, 2))
        self.check_least(SMALL, "even", ("times", 0, 0), ((across, x),), ("span", MINUS_TWO, FOUR), 4 * x + x * x + Fraction(1, 20))
        self.check_least(SMALL, "even", ("times", 0, 1), ((across, x), (one, y)), ("span", ("num", 1, 40, -1), TWO), 2 * y + 2 * x + x * y + Fraction(1, 20))
        self.check_least(SMALL, "even", ("times", 0, 1), ((across, x), (one, y)), ("span", MINUS_TWO, TWO), None)
        self.check_least(SMALL, "up", ("times", 0, 1), ((("span", TINY, TINY), 0), (("span", TINY, TINY), 0)), ("span", ZERO, TINY), Fraction(1, 1000))

    def test_quotients(self):
        one, two = ("span", ONE, TWO), ("span", TWO, THREE)
        span = ("span", ("num", 0, 33, -2), ONE)
        unit = Fraction(1, 20)
        for x, y in ((Fraction(0), Fraction(0)), (Fraction(1, 9), Fraction(0)), (Fraction(0), Fraction(1, 9)), (Fraction(1, 9), Fraction(1, 8)), (Fraction(1, 9), Fraction(19, 10))):
            d = (x + y) / (2 - y)
            self.check_least(SMALL, "even", ("by", 0, 1), ((one, x), (two, y)), span, d + rounding_error(SMALL, "even", 1 + d))
        # NEAR of the divisor just its error, and just above.
        for y in (Fraction(2), 2 + LITTLE, Fraction(5)):
            self.check_least(SMALL, "even", ("by", 0, 1), ((one, 0), (two, y)), span, None)
        zeros = ("span", ZERO, ZERO)
        self.check_least(SMALL, "even", ("by", 0, 1), ((zeros, 0), (two, 2 - LITTLE)), zeros, Fraction(1, 2000))
        self.check_least(SMALL, "even", ("by", 0, 1), ((zeros, LITTLE), (two, 2 - LITTLE)), zeros, 1 + unit)
        below = ("span", ("num", 1, 30, -1), MINUS_TWO)
        self.check_least(SMALL, "even", ("by", 0, 1), ((zeros, 0), (below, 2 - LITTLE)), zeros, Fraction(1, 2000))
        self.check_least(SMALL, "even", ("by", 0, 1), ((zeros, 0), (below, 2)), zeros, None)
        # The truth is not told, though the SPAN of what has a worth lies in that of the step.
        for divisor in (("span", ZERO, ONE), ("span", MINUS_ONE, ONE), ("span", ZERO, ZERO)):
            self.check_least(SMALL, "even", ("by", 0, 1), ((zeros, 0), (divisor, 0)), ("span", MINUS_ONE, ONE), None)

    def test_roots(self):
        part, span = ("span", ONE, FOUR), ("span", ONE, TWO)
        unit = Fraction(1, 20)
        self.check_least(SMALL, "even", ("root", 0), ((part, 0),), span, unit)
        self.check_least(SMALL, "even", ("root", 0), ((("span", ZERO, FOUR), 0),), ("span", ZERO, TWO), unit)
        self.check_least(SMALL, "even", ("root", 0), ((part, Fraction(19, 100)),), span, Fraction(19, 100) / Fraction(18, 10) + unit)
        # The root of 0.5 ROUNDED "down" is 0.7.
        self.check_least(SMALL, "even", ("root", 0), ((part, Fraction(1, 2)),), span, Fraction(1, 2) / Fraction(140, 100) + unit)
        for error in (Fraction(1), 1 + LITTLE, Fraction(3)):
            self.check_least(SMALL, "even", ("root", 0), ((part, error),), span, None)
        # The low end less the error: its root ROUNDED "down" is 0, then above 0.
        few = (10, 2, -2, 3)
        for rest, is_told in ((LITTLE, False), (Fraction(1, 10 ** 4) - LITTLE, False), (Fraction(1, 10 ** 4), True)):
            error = 1 - rest
            d = error / Fraction(2, 100)
            told = d + rounding_error(few, "even", 2 + d) if is_told else None
            self.check_least(few, "even", ("root", 0), ((part, error),), ("span", ONE, TWO), told)
        self.check_least(SMALL, "even", ("root", 0), ((("span", ZERO, FOUR), LITTLE),), ("span", ZERO, TWO), None)
        # Below 0: the truth is not told.
        self.check_least(SMALL, "even", ("root", 0), ((("span", MINUS_ONE, FOUR), 0),), ("span", ZERO, TWO), None)
        self.check_least(SMALL, "even", ("root", 0), ((("span", MINUS_TWO, MINUS_ONE), 0),), ("span", ZERO, TWO), None)

    def test_signs_and_lesser_ones(self):
        one, two, across = ("span", ONE, TWO), ("span", TWO, THREE), ("span", MINUS_TWO, ONE)
        for word, rows, span, error in (
            ("opposite", ((one, 0),), (MINUS_TWO, MINUS_ONE), 0), ("opposite", ((one, 7),), (MINUS_TWO, ONE), 7), ("opposite", ((one, 0),), (MINUS_ONE, ZERO), None),
            ("size", ((across, Fraction(1, 3)),), (ZERO, TWO), Fraction(1, 3)), ("size", ((across, 0),), (ONE, TWO), None), ("size", ((across, 10 ** 6),), (ZERO, TWO), 10 ** 6),
            ("least", ((one, 0), (two, 3)), (ONE, TWO), 3), ("least", ((one, 4), (two, 3)), (ONE, TWO), 4), ("least", ((one, 0), (two, 0)), (TWO, TWO), None),
            ("greatest", ((one, Fraction(1, 3)), (two, Fraction(1, 7))), (TWO, THREE), Fraction(1, 3)), ("greatest", ((one, 0), (two, Fraction(1, 7))), (ONE, FOUR), Fraction(1, 7)),
        ):
            step = (word,) + tuple(range(len(rows)))
            self.check_least(SMALL, "up", step, rows, ("span",) + span, error)

    def test_ifs(self):
        one, two, three, four = ("span", ONE, ONE), ("span", TWO, TWO), ("span", THREE, THREE), ("span", FOUR, FOUR)
        sides = ((three, Fraction(1, 3)), (four, Fraction(1, 7)))
        for a, b, taken in (
            # Less: just at the bound it is not sure.
            ((one, 0), (two, 0), 0), ((one, Fraction(1, 2)), (two, Fraction(1, 2) - LITTLE), 0), ((one, Fraction(1, 2)), (two, Fraction(1, 2)), None),
            ((one, 1), (two, 0), None), ((one, 0), (two, 1), None), ((one, 0), (("span", ONE, TWO), 0), None), ((("span", ZERO, TWO), 0), (two, 0), None),
            # Not less: just at the bound it is sure.
            ((two, 0), (one, 0), 1), ((two, Fraction(1, 2)), (one, Fraction(1, 2)), 1), ((two, Fraction(1, 2)), (one, Fraction(1, 2) + LITTLE), None),
            ((two, 0), (two, 0), 1), ((two, 0), (("span", ONE, TWO), 0), 1), ((("span", ONE, TWO), 0), (one, 0), 1), ((("span", ONE, TWO), LITTLE), (one, 0), None),
            ((two, LITTLE), (two, 0), None),
        ):
            span, error = (None, None) if taken is None else sides[taken]
            for wide in (("span", THREE, THREE), ("span", FOUR, FOUR), ("span", THREE, FOUR), ("span", ZERO, ("num", 0, 50, -1))):
                told = error if taken is not None and lies_in(SMALL, span, wide) else None
                self.check_least(SMALL, "even", ("if", 0, 1, 2, 3), (a, b) + sides, wide, told)
        # Not sure, but both sides are one step.
        unsure = ((one, 5), (two, 5))
        self.check_least(SMALL, "even", ("if", 0, 1, 2, 2), unsure + sides, three, Fraction(1, 3))
        self.check_least(SMALL, "even", ("if", 0, 1, 3, 3), unsure + sides, ("span", ZERO, FOUR), Fraction(1, 7))
        self.check_least(SMALL, "even", ("if", 0, 1, 2, 2), unsure + sides, four, None)
        # Two steps that are alike are not one.
        self.check_least(SMALL, "even", ("if", 0, 1, 2, 3), unsure + (sides[0], sides[0]), three, None)

    def test_wider_spans_are_let_and_narrower_ones_are_not(self):
        random = Random(47)
        for _ in range(250):
            form, way = random.choice((SMALL, WIDE)), random.choice(WAYS)
            word = random.choice([word for word in PARTS if word != "if"])
            rows = tuple([(drawn_span(random, form, True), Fraction(random.randint(0, 3), 40)) for _ in range(PARTS[word])])
            span, truth = span_result(form, word, tuple([one for one, _ in rows]))
            if not truth or BOTTOM in span or TOP in span or span == NO_NUMBERS:
                continue
            steps = tuple([("told", (0, 1))] * len(rows)) + ((word,) + tuple(range(len(rows))),)
            for wide in (span, drawn_span(random, form, True), drawn_span(random, form, True)):
                self.check((0, steps), form, way, (), paper_of(*rows, (wide, 10 ** 6)), len(rows))


if __name__ == "__main__":
    unittest.main()
