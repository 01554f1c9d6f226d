"""[46]: the judge of papers; [9]: each paper that is taken holds."""

import unittest
from fractions import Fraction
from random import Random

from drawn import BOTTOM, NO_NUMBERS, PARTS, PLAIN_WORDS, TOP, WHOLE, drawn_program, drawn_span, numbers_within
from nearestheld.bounding import error_paper
from nearestheld.errorpapers import rule_kept
from nearestheld.errors import CannotTell
from nearestheld.judging import bound_of, broken_step, is_paper, widened
from nearestheld.running import run
from nearestheld.spans import holds, hull
from nearestheld.truth import true_bounds, true_worths
from reference import WAYS, pair_of, worth_of
from things import check_any_value, picture, variants

SMALL, WIDE, BITS = (10, 2, -3, 3), (2, 6, -9, 4), (2, 3, -2, 1)
ZERO, ONE, TWO = ("num", 0, 0, -3), ("num", 0, 10, -1), ("num", 0, 20, -1)
THIRD = (1, (("input", 0), ("told", (3, 1)), ("by", 0, 1), ("times", 2, 1)))
BOX = (("span", ONE, TWO),)
PAPER = error_paper(THIRD, SMALL, "even", BOX)


def drawn_paper(random, words=tuple(PARTS), length=9):
    """A program, a FORMAT, a WAY, a BOX and a PAPER that keeps each RULE, somewhat wider than it has to be."""
    while True:
        form, way = random.choice((SMALL, WIDE, WIDE)), random.choice(WAYS)
        program = drawn_program(random, words, random.randint(1, 2), random.randint(3, length))
        box = tuple([drawn_span(random, form, True) for _ in range(program[0])])
        try:
            paper = error_paper(program, form, way, box)
        except CannotTell:
            continue
        wider = wider_paper(random, program, form, way, box, paper)
        return program, form, way, box, paper if wider is None else wider


def wider_paper(random, program, form, way, box, paper):
    """A PAPER with some wider SPANS and FRACTIONS, which those behind them have to follow; None if that cannot be."""
    rows = []
    for at in range(len(paper)):
        span, error = paper[at]
        if random.random() < 0.2:
            span = hull(form, span, drawn_span(random, form, True))
        row = (span, error)
        for more in (0, Fraction(1, 1000), Fraction(1, 10), Fraction(1), Fraction(10)):
            row = (span, pair_of(Fraction(*error) + more))
            if rule_kept(program, form, way, box, tuple(rows) + (row,), at):
                break
        else:
            return None
        rows.append(row)
    return tuple(rows)


class Judge(unittest.TestCase):
    def test_known_ones(self):
        self.assertIs(is_paper(THIRD, SMALL, "even", BOX, PAPER), True)
        self.assertIsNone(broken_step(THIRD, SMALL, "even", BOX, PAPER))
        self.assertEqual(bound_of(PAPER), (13, 200))
        self.assertIs(is_paper(THIRD, SMALL, "up", BOX, PAPER), False)
        self.assertEqual(broken_step(THIRD, SMALL, "up", BOX, PAPER), 2)
        self.assertEqual(broken_step(THIRD, SMALL, "even", (("span", ZERO, TWO),), PAPER), 0)
        self.assertIs(is_paper(THIRD, SMALL, "even", (("span", TWO, TWO),), PAPER), True)

    def test_any_value(self):
        check_any_value(self, lambda thing: is_paper(THIRD, SMALL, "even", BOX, thing), [PAPER] + variants(PAPER))
        for thing in variants(PAPER):
            if is_paper(THIRD, SMALL, "even", BOX, thing):
                # All that is let has the form of a PAPER.
                self.assertEqual([thing.__class__, len(thing)], [tuple, 4])
                for row in thing:
                    self.assertEqual([part.__class__ for part in row], [tuple, tuple])
                self.assertIsNone(broken_step(THIRD, SMALL, "even", BOX, thing))

    def test_what_is_no_paper(self):
        self.assertIs(is_paper(THIRD, SMALL, "even", BOX, PAPER[:3]), False)
        self.assertIs(is_paper(THIRD, SMALL, "even", BOX, PAPER + PAPER[3:]), False)
        self.assertIs(is_paper(THIRD, SMALL, "even", BOX, (PAPER[0], PAPER[2], PAPER[1], PAPER[3])), False)
        self.assertIs(is_paper(THIRD, SMALL, "even", BOX, list(PAPER)), False)
        for at in range(4):
            span, error = PAPER[at]
            for row in (
                (("span", BOTTOM, span[2]), error), (("span", span[1], TOP), error), (WHOLE, error), (NO_NUMBERS, error), (list(span), error), (span[1:], error),
                (("span", span[2], span[1]), (5, 1)) if span[1] != span[2] else None, (span, (-1, 1)), (span, (-1, 10 ** 9)), (span, (10, 2)), (span, (1.0, 1)),
                (span, (True, 1)), (span, (1, True)), (span, [9, 1]), (span, 9), (span, (9, 0)), (span, (9, -1)), (span, error, error), (span,), [span, error],
                (error, span), None, (span, None), (("span", ("num", 1, 0, -3), span[2]), error), (("span", ("num", False, 0, -3), span[2]), error), (span, "1/2"),
            ):
                self.assertIs(is_paper(THIRD, SMALL, "even", BOX, PAPER[:at] + (row,) + PAPER[at + 1:]), False, row)
            for error in ((10 ** 199, 1), (99, 7)):
                told = is_paper(THIRD, SMALL, "even", BOX, PAPER[:at] + ((span, error),) + PAPER[at + 1:])
                self.assertIs(told, at == 3)

    def test_the_least_broken_step(self):
        zero = (("span", ZERO, ZERO), (0, 1))
        for broken in ((0,), (1,), (2,), (3,), (0, 2), (1, 3), (0, 1, 2, 3)):
            paper = tuple([zero if at in broken else row for at, row in enumerate(PAPER)])
            self.assertEqual(broken_step(THIRD, SMALL, "even", BOX, paper), min(broken))
        random = Random(46)
        for _ in range(200):
            program, form, way, box, paper = drawn_paper(random)
            at = random.randrange(len(paper))
            paper = paper[:at] + ((drawn_span(random, form, True), (0, 1)),) + paper[at + 1:]
            kept = [rule_kept(program, form, way, box, paper, index) for index in range(len(paper))]
            self.assertEqual(broken_step(program, form, way, box, paper), None if all(kept) else kept.index(False))
            self.assertIs(is_paper(program, form, way, box, paper), all(kept))

    def test_widened(self):
        for at in range(4):
            for more in ((0, 1), (1, 7), (5, 1), (1, 10 ** 2000)):
                before = picture(PAPER)
                told = widened(THIRD, SMALL, "even", BOX, PAPER, at, more)
                expected = list(PAPER)
                expected[at] = (PAPER[at][0], pair_of(Fraction(*PAPER[at][1]) + Fraction(*more)))
                self.assertEqual(told, tuple(expected))
                self.assertEqual(bound_of(told), expected[3][1])
                self.assertEqual(picture(PAPER), before)
                kept = at == 3 or more == (0, 1)
                self.assertIs(is_paper(THIRD, SMALL, "even", BOX, told), kept)
                # The quotient is the first that gets more of 0 and of 1, the product that of 2.
                self.assertEqual(broken_step(THIRD, SMALL, "even", BOX, told), None if kept else max(at + 1, 2))

    def test_bound_of(self):
        self.assertEqual(bound_of(((BOX[0], (1, 3)), (BOX[0], (2, 3)))), (2, 3))
        random = Random(47)
        for _ in range(20):
            paper = drawn_paper(random)[4]
            self.assertEqual(bound_of(paper), paper[-1][1])


class Holds(unittest.TestCase):
    def values_of(self, random, form, box):
        """NUMBERS WITHIN a BOX, often its ends; zeros with both SIGNS."""
        found = []
        for span in box:
            number = random.choice([span[1], span[2], random.choice(numbers_within(form, span))])
            found.append(("num", random.randrange(2)) + number[2:] if number[2] == 0 else number)
        return tuple(found)

    def check(self, program, form, way, box, paper, values, worths):
        """Check that each step of a run is a NUMBER that differs from its TRUE worth by no more than a PAPER tells."""
        self.assertIs(is_paper(program, form, way, box, paper), True)
        made, _ = run(program, form, way, values)
        for value, (low, high), (span, error) in zip(made, worths, paper):
            self.assertEqual(value[0], "num")
            x, little = worth_of(form, value), high - low
            self.assertLessEqual(max(abs(x - low), abs(x - high)), Fraction(*error) + little)
            if low == high:
                self.assertIs(holds(form, span, pair_of(low)), True)
            else:
                self.assertTrue(worth_of(form, span[1]) <= high and low <= worth_of(form, span[2]))

    def test_plain_programs(self):
        random = Random(48)
        for _ in range(300):
            program, form, way, box, paper = drawn_paper(random, PLAIN_WORDS, 12)
            for _ in range(8):
                values = self.values_of(random, form, box)
                worths = [Fraction(*x) for x in true_worths(program, tuple([pair_of(worth_of(form, value)) for value in values]))]
                self.check(program, form, way, box, paper, values, [(x, x) for x in worths])

    def test_programs_with_roots(self):
        random = Random(49)
        seen = 0
        while seen < 60:
            program, form, way, box, paper = drawn_paper(random, tuple(PARTS) + ("root",) * 5)
            if all([step[0] != "root" for step in program[1]]):
                continue
            seen += 1
            for _ in range(3):
                values = self.values_of(random, form, box)
                inputs = tuple([pair_of(worth_of(form, value)) for value in values])
                worths = []
                for at in range(len(program[1])):
                    bounds = true_bounds((program[0], program[1][:at + 1]), inputs, 40)
                    worths.append(tuple([Fraction(*x) for x in bounds]))
                self.check(program, form, way, box, paper, values, worths)

    def test_all_numbers_within(self):
        random = Random(50)
        for _ in range(12):
            program, form, way, box, paper = drawn_paper(random, PLAIN_WORDS, 8)
            if program[0] == 1:
                for number in numbers_within(form, box[0]):
                    worths = [Fraction(*x) for x in true_worths(program, (pair_of(worth_of(form, number)),))]
                    self.check(program, form, way, box, paper, (number,), [(x, x) for x in worths])


if __name__ == "__main__":
    unittest.main()
