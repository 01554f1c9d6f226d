"""[47]: papers made."""

import unittest
from fractions import Fraction
from random import Random

from drawn import BOTTOM, NO_NUMBERS, PARTS, PLAIN_WORDS, TOP, drawn_program, drawn_span, numbers_within, spans_of_large
from nearestheld.bounding import error_bound, error_paper
from nearestheld.errorpapers import rule_kept
from nearestheld.errors import CannotTell, NearError
from nearestheld.judging import bound_of, is_paper, widened
from nearestheld.programs import shortened
from nearestheld.running import worst_error
from nearestheld.spanops import span_result
from nearestheld.spans import span_of
from reference import LARGE_FORMATS, WAYS, pair_of
from test_errorpapers import ends_of, expected_rule
from things import picture

SMALL, WIDE = (10, 2, -3, 3), (2, 6, -9, 4)
ZERO, HALF, ONE, TWO, THREE = ("num", 0, 0, -3), ("num", 0, 50, -2), ("num", 0, 10, -1), ("num", 0, 20, -1), ("num", 0, 30, -1)
MINUS_ONE = ("num", 1, 10, -1)
THIRD = (1, (("input", 0), ("told", (3, 1)), ("by", 0, 1), ("times", 2, 1)))
BOX = (("span", ONE, TWO),)
LITTLE = Fraction(1, 10 ** 500)


def expected_span(program, form, box, rows, at):
    """The SPAN that a PAPER that is made has for a step, in the words of the document."""
    word, *parts = program[1][at]
    if word == "input":
        return box[parts[0]]
    if word == "told":
        return span_of(form, parts[0], parts[0])
    if word != "if":
        return span_result(form, word, tuple([rows[part][0] for part in parts]))[0]
    (low_a, high_a), (low_b, high_b) = [ends_of(form, rows[part][0]) for part in parts[:2]]
    a_error, b_error = [Fraction(*rows[part][1]) for part in parts[:2]]
    return rows[parts[2] if high_a + a_error < low_b - b_error or parts[2] == parts[3] else parts[3]][0]


class Papers(unittest.TestCase):
    def check(self, program, form, way, box):
        """Check what is told of a program; the PAPER, or None in the place of CannotTell."""
        before = picture([program, form, box])
        try:
            paper = error_paper(program, form, way, box)
        except CannotTell as error:
            self.check_cannot(program, form, way, box, error.step)
            return None
        self.assertEqual(picture([program, form, box]), before)
        self.assertIs(is_paper(program, form, way, box, paper), True)
        self.assertEqual(error_bound(program, form, way, box), bound_of(paper))
        for at, (span, error) in enumerate(paper):
            self.assertEqual(span, expected_span(program, form, box, paper, at))
            self.assertIs(expected_rule(program, form, way, box, paper, at), True)
            less = Fraction(*error) - LITTLE
            if less >= 0:
                lesser = paper[:at] + ((span, pair_of(less)),) + paper[at + 1:]
                self.assertIs(rule_kept(program, form, way, box, lesser, at), False)
        self.assertEqual(error_paper(program, form, way, box), paper)
        return paper

    def check_cannot(self, program, form, way, box, step):
        """Check that this is the least step of which no PAPER can be made."""
        many, steps = program
        self.assertIsNone(error_bound(program, form, way, box))
        ahead = self.check((many, steps[:step]), form, way, box) if step > 0 else ()
        self.assertIsNotNone(ahead)
        # No row with the least SPAN, and whatever FRACTION, keeps the RULE of this step.
        word, *parts = steps[step]
        if word == "if":
            spans = [ahead[part][0] for part in parts[2:]]
        else:
            spans = [expected_span(program, form, box, ahead, step)]
        for span in spans:
            if span != NO_NUMBERS and BOTTOM not in span and TOP not in span:
                for error in ((0, 1), (10 ** 9, 1), (10 ** 90, 1)):
                    self.assertIs(rule_kept((many, steps[:step + 1]), form, way, box, ahead + ((span, error),), step), False)

    def check_step(self, steps, form, way, box, step):
        """Check that CannotTell is raised with the index of a step."""
        program = (len(box), tuple(steps))
        with self.assertRaises(CannotTell) as caught:
            error_paper(program, form, way, box)
        self.assertEqual(caught.exception.step, step)
        self.assertIsInstance(caught.exception, NearError)
        self.check_cannot(program, form, way, box, step)

    def test_drawn_programs_by_each_way(self):
        random = Random(47)
        told = {}
        for _ in range(700):
            form, way = random.choice((SMALL, WIDE)), random.choice(WAYS)
            program = drawn_program(random, tuple(PARTS), random.randint(0, 3), random.randint(3, 9))
            box = tuple([drawn_span(random, form, True) for _ in range(program[0])])
            paper = self.check(program, form, way, box)
            told[paper is None] = told.get(paper is None, 0) + 1
        self.assertGreater(min(told.values()), 100)

    def test_known_ones(self):
        third = ("span", ("num", 0, 33, -2), ("num", 0, 67, -2))
        paper = self.check(THIRD, SMALL, "even", BOX)
        self.assertEqual(paper, ((BOX[0], (0, 1)), (("span", THREE, THREE), (0, 1)), (third, (1, 200)), (("span", ("num", 0, 99, -2), ("num", 0, 21, -1)), (13, 200))))
        self.assertEqual([error_bound(THIRD, SMALL, way, BOX) for way in WAYS], [(13, 200), (13, 200), (13, 100), (13, 100), (13, 100)])
        told = self.check((0, (("told", (1, 3)), ("told", (1, 2)))), SMALL, "up", ())
        self.assertEqual(told, ((("span", ("num", 0, 33, -2), ("num", 0, 34, -2)), (1, 150)), (("span", HALF, HALF), (0, 1))))

    def test_ifs(self):
        steps = (("input", 0), ("told", (3, 1)), ("told", (1, 3)), ("if", 0, 1, 2, 0))
        self.assertEqual(self.check((1, steps), SMALL, "even", BOX)[3], (("span", ("num", 0, 33, -2), ("num", 0, 34, -2)), (1, 300)))
        steps = steps[:3] + (("if", 1, 0, 2, 0),)
        self.assertEqual(self.check((1, steps), SMALL, "even", BOX)[3], (BOX[0], (0, 1)))
        # Both worths are as they are, but the VALUE may be on the other side.
        near = (("input", 0), ("told", (1, 3)), ("told", (1, 1000)), ("add", 1, 2), ("if", 1, 3, 0, 0), ("if", 1, 3, 0, 1))
        self.assertEqual(self.check((1, near[:5]), SMALL, "even", BOX)[4], (BOX[0], (0, 1)))
        self.check_step(near, SMALL, "even", BOX, 5)

    def test_cannot_tell(self):
        top, low_0, across = ("span", ("num", 0, 90, 3), ("num", 0, 99, 3)), ("span", ZERO, ONE), ("span", MINUS_ONE, ONE)
        one, third = ("told", (1, 1)), ("told", (1, 3))
        for steps, box, way, step in (
            # A SPAN without two NUMBERS.
            ((("input", 0), ("add", 0, 0)), (top,), "even", 1), ((("input", 0), ("times", 0, 0)), (top,), "zero", 1), ((("told", (10 ** 6, 1)),), (), "even", 0),
            # A told one that goes OVER; 99,400 does not, but no SPAN of two NUMBERS HOLDS it.
            ((one, ("told", (-10 ** 6, 1))), (), "zero", 1), ((one, ("told", (99400, 1))), (), "even", 1),
            # The truth is not told.
            ((("input", 0), one, ("by", 1, 0)), (low_0,), "even", 2), ((("input", 0), ("by", 0, 0)), (across,), "even", 1), ((("input", 0), ("root", 0)), (across,), "even", 1),
            ((("told", (0, 1)), ("by", 0, 0)), (), "even", 1), ((("told", (0, 1)), ("input", 0), ("by", 0, 1)), (across,), "even", 2),
            # R is None: the SPAN has two NUMBERS, but with the errors it goes OVER.
            ((("input", 0), ("told", (10 ** 5, 3)), ("told", (2, 1)), ("times", 1, 2), ("add", 3, 1)), (low_0,), "even", 4),
            # The divisor is too near to 0: a third less 0.33.
            ((third, ("told", (33, 100)), ("take", 0, 1), one, ("by", 3, 2)), (), "even", 4), ((third, ("told", (1, 4)), ("take", 0, 1), one, ("by", 3, 2)), (), "even", None),
            # So is what a root is taken of.
            ((third, ("told", (33, 100)), ("take", 0, 1), ("root", 2)), (), "even", 3), ((third, ("told", (1, 4)), ("take", 0, 1), ("root", 2)), (), "even", None),
            ((third, ("take", 0, 0), ("size", 1), ("root", 2)), (), "even", 3),
            # No side of an "if" is sure.
            ((("input", 0), one, ("if", 0, 1, 0, 1)), BOX, "even", None), ((("input", 0), ("told", (3, 2)), ("if", 0, 1, 0, 1)), BOX, "even", 2),
            ((("input", 0), ("told", (3, 2)), ("if", 0, 1, 1, 1)), BOX, "even", None), ((third, third, ("if", 0, 1, 0, 1)), (), "even", 2),
        ):
            if step is None:
                self.assertIsNotNone(self.check((len(box), steps), SMALL, way, box))
            else:
                self.check_step(steps, SMALL, way, box, step)
                self.assertIsNone(error_bound((len(box), steps), SMALL, way, box))

    def test_the_least_step_also_if_it_is_not_needed(self):
        steps = (("input", 0), ("told", (0, 1)), ("by", 0, 1), ("root", 2), ("add", 0, 0))
        self.check_step(steps, SMALL, "even", BOX, 2)
        self.assertIsNotNone(error_bound(shortened((1, steps)), SMALL, "even", BOX))

    def test_shortened_programs(self):
        random = Random(48)
        seen = 0
        for _ in range(300):
            program = drawn_program(random, tuple(PARTS), 2, random.randint(3, 12))
            box = (drawn_span(random, WIDE, True), drawn_span(random, WIDE, True))
            bound = error_bound(program, WIDE, "even", box)
            if bound is not None:
                seen += 1
                self.assertEqual(error_bound(shortened(program), WIDE, "even", box), bound)
        self.assertGreater(seen, 30)

    def test_worst_errors_are_not_above(self):
        random = Random(49)
        seen = 0
        for _ in range(400):
            form, way = random.choice((SMALL, WIDE)), random.choice(WAYS)
            program = drawn_program(random, PLAIN_WORDS, random.randint(1, 2), random.randint(3, 10))
            box = []
            for _ in range(program[0]):
                numbers = numbers_within(form, drawn_span(random, form, True))
                at = random.randrange(len(numbers))
                box.append(("span", numbers[at], numbers[min(len(numbers) - 1, at + random.randint(0, 14))]))
            bound = error_bound(program, form, way, tuple(box))
            if bound is not None:
                seen += 1
                worst = worst_error(program, form, way, tuple([numbers_within(form, span) for span in box]))
                self.assertLessEqual(Fraction(*worst[0]), Fraction(*bound))
        self.assertGreater(seen, 100)

    def test_bounds_that_are_reached(self):
        # Of one operation on points the bound is at most twice what is worst.
        program = (1, (("input", 0), ("told", (3, 1)), ("by", 0, 1)))
        bound = Fraction(*error_bound(program, SMALL, "up", BOX))
        worst = Fraction(*worst_error(program, SMALL, "up", (numbers_within(SMALL, BOX[0]),))[0])
        self.assertTrue(bound / 2 <= worst <= bound)

    def test_large_formats(self):
        random = Random(50)
        for form in LARGE_FORMATS:
            spans = spans_of_large(form, 8, 13)
            for _ in range(25):
                program = drawn_program(random, tuple(PARTS), 2, 8)
                self.check(program, form, random.choice(WAYS), tuple(random.choices(spans, k=2)))

    def test_widened_papers_may_be_widened_again(self):
        paper = error_paper(THIRD, SMALL, "even", BOX)
        for _ in range(3):
            paper = widened(THIRD, SMALL, "even", BOX, paper, 3, (1, 3))
            self.assertIs(is_paper(THIRD, SMALL, "even", BOX, paper), True)
        self.assertEqual(bound_of(paper), (213, 200))


if __name__ == "__main__":
    unittest.main()
