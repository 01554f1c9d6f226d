"""[34]: TRUE worths, and bounds of them where roots are."""

import unittest
from fractions import Fraction
from math import isqrt
from random import Random

from drawn import (
    CLOSE, EXACT, PARTS, PLAIN_WORDS, Close, decimal_of, drawn_fraction, drawn_program, each_word_program, true_worth_of,
)
from nearestheld.errors import NearError, Undecided
from nearestheld.forms import is_fraction
from nearestheld.programs import put_in, shortened
from nearestheld.truth import true_bounds, true_worth, true_worths
from reference import fraction_of, pair_of
from things import picture

HALF, TWO, ZERO, ONE = ("told", (1, 2)), ("told", (2, 1)), ("told", (0, 1)), ("told", (1, 1))
# Steps 0 to 4: 2, its root twice, the difference of both, 1.
EQUAL_ROOTS = (TWO, ("root", 0), ("root", 0), ("take", 1, 2), ONE)
# Steps 0 to 4: 1, 0, 1 by 0, which has no worth, 2, its root.
NO_WORTH = (ONE, ZERO, ("by", 0, 1), TWO, ("root", 3))


def worths_of(program, inputs):
    """The TRUE worths of all steps of a PLAIN program, by Python's own fractions."""
    found = [true_worth_of(program, [Fraction(*x) for x in inputs], at) for at in range(len(program[1]))]
    return [None if x is None else pair_of(x) for x in found]


class Worths(unittest.TestCase):
    def check(self, steps, expected, inputs=()):
        program = (len(inputs), tuple(steps))
        self.assertEqual(true_worths(program, inputs), expected)
        self.assertEqual(true_worth(program, inputs), expected[-1])
        self.assertEqual(worths_of(program, inputs), expected)

    def test_each_word(self):
        random = Random(34)
        for program in each_word_program(PLAIN_WORDS):
            for _ in range(60):
                inputs = tuple([drawn_fraction(random, 4) for _ in range(3)])
                told = true_worths(program, inputs)
                self.assertEqual(told, worths_of(program, inputs))
                self.assertEqual(true_worth(program, inputs), told[-1])

    def test_drawn_programs(self):
        random = Random(35)
        without, seen = 0, {}
        for _ in range(400):
            program = drawn_program(random, PLAIN_WORDS, random.randint(0, 3), random.randint(1, 30))
            inputs = tuple([drawn_fraction(random, 3) for _ in range(program[0])])
            before = picture([program, inputs])
            told = true_worths(program, inputs)
            self.assertEqual(told, worths_of(program, inputs))
            self.assertEqual(picture([program, inputs]), before)
            self.assertTrue(all([x is None or is_fraction(x) for x in told]))
            self.assertEqual(true_worth(program, inputs), told[-1])
            without += told.count(None)
            seen.update({step[0]: True for step in program[1]})
        self.assertGreater(without, 100)
        self.assertEqual(set(seen), set(PLAIN_WORDS) | {"input", "told"})

    def test_known_ones(self):
        self.check([HALF], [(1, 2)])
        self.check([("input", 1), ("input", 0), ("take", 0, 1)], [(5, 1), (1, 3), (14, 3)], ((1, 3), (5, 1)))
        self.check([HALF, TWO, ("fused", 0, 1, 1), ("fused", 1, 1, 0)], [(1, 2), (2, 1), (3, 1), (9, 2)])
        self.check([HALF, ("opposite", 0), ("size", 1), ("least", 0, 1), ("greatest", 0, 1)],
                   [(1, 2), (-1, 2), (1, 2), (-1, 2), (1, 2)])

    def test_a_divisor_that_is_0(self):
        self.check([HALF, ZERO, ("by", 0, 1)], [(1, 2), (0, 1), None])
        self.check([ZERO, ("by", 0, 0)], [(0, 1), None])
        self.check([HALF, ("take", 0, 0), ("by", 0, 1), ("add", 2, 0)], [(1, 2), (0, 1), None, None])
        # Not needed: the RESULT has a worth all the same.
        self.check([HALF, ZERO, ("by", 0, 1), ("add", 0, 0)], [(1, 2), (0, 1), None, (1, 1)])
        self.check([HALF, ZERO, ("by", 1, 0)], [(1, 2), (0, 1), (0, 1)])

    def test_what_hangs_on_a_part_without_a_worth(self):
        for word, many in PARTS.items():
            if word not in ("root", "if"):
                for place in range(many):
                    step = (word,) + tuple([2 if at == place else 0 for at in range(many)])
                    self.check([HALF, ZERO, ("by", 0, 1), step], [(1, 2), (0, 1), None, None])
        self.check([HALF, ZERO, ("by", 0, 1), ("times", 1, 2), ("take", 2, 2)], [(1, 2), (0, 1), None, None, None])

    def test_ifs(self):
        ahead, told = [HALF, TWO, ZERO, ("by", 0, 2)], [(1, 2), (2, 1), (0, 1), None]
        for a, b, c, d, expected in (
            (0, 1, 0, 1, (1, 2)), (1, 0, 0, 1, (2, 1)), (0, 0, 0, 1, (2, 1)), (0, 0, 1, 0, (1, 2)),
            (0, 0, 3, 1, (2, 1)), (0, 0, 1, 3, None), (0, 1, 0, 3, (1, 2)), (0, 1, 3, 0, None),
            (1, 0, 3, 1, (2, 1)), (1, 0, 1, 3, None), (3, 0, 1, 1, None), (0, 3, 1, 1, None), (3, 3, 1, 1, None), (2, 0, 2, 2, (0, 1)),
        ):
            self.check(ahead + [("if", a, b, c, d)], told + [expected])

    def test_the_least_and_the_greatest(self):
        for one, other in (((1, 2), (1, 3)), ((-1, 2), (-1, 3)), ((0, 1), (0, 1)), ((-5, 1), (5, 1)), ((7, 3), (7, 3))):
            self.check([("input", 0), ("input", 1), ("least", 0, 1), ("greatest", 0, 1)],
                       [one, other, pair_of(min(Fraction(*one), Fraction(*other))), pair_of(max(Fraction(*one), Fraction(*other)))],
                       (one, other))

    def test_long_fractions(self):
        one, other = (10 ** 2099 + 7, 10 ** 2098 * 3), (-7 ** 2480, 2 ** 6970)
        one = pair_of(Fraction(*one))
        for program in each_word_program(PLAIN_WORDS):
            inputs = (one, other, (3 ** 4400, 10 ** 2099))
            self.assertEqual(true_worths(program, inputs), worths_of(program, inputs))

    def test_thirty_steps_one_behind_the_other(self):
        program = (1, (("input", 0),) + tuple([("fused", at, 0, 0) for at in range(29)]))
        x = Fraction(10 ** 2099 + 1, 10 ** 2099 - 1)
        expected = [x]
        for _ in range(29):
            expected.append(expected[-1] * x + x)
        self.assertEqual(true_worths(program, (pair_of(x),)), [pair_of(y) for y in expected])
        self.check([ONE] + [("add", at, at) for at in range(29)], [(2 ** at, 1) for at in range(30)])
        self.check([HALF] + [("by", at, 0) for at in range(29)], [pair_of(Fraction(2) ** (at - 1)) for at in range(30)])

    def test_the_list_may_be_changed(self):
        program = (1, (("input", 0), ("add", 0, 0)))
        for _ in range(2):
            told = true_worths(program, ((1, 2),))
            self.assertEqual(told, [(1, 2), (1, 1)])
            told.clear()

    def test_shortened_programs_and_those_that_were_put_in(self):
        random = Random(36)
        for _ in range(200):
            program = drawn_program(random, PLAIN_WORDS, random.randint(1, 3), random.randint(3, 12))
            inputs = tuple([drawn_fraction(random, 3) for _ in range(2)])
            inner = tuple([drawn_program(random, PLAIN_WORDS, 2, random.randint(2, 9)) for _ in range(program[0])])
            worths = [true_worth(one, inputs) for one in inner]
            if None not in worths:
                expected = true_worth(program, tuple(worths))
                self.assertEqual(true_worth(put_in(program, inner), inputs), expected)
                self.assertEqual(true_worth(shortened(program), tuple(worths)), expected)
            for one in inner:
                self.assertEqual(true_worth(shortened(one), inputs), true_worth(one, inputs))
            # A program whose RESULT is an input has the worth of what stands there.
            self.assertEqual(true_worth(put_in((1, (("input", 0),)), inner[:1]), inputs), worths[0])


class Bounds(unittest.TestCase):
    def check_near(self, program, inputs, places, told=None):
        """Check bounds against a Fraction or a Decimal of 700 digits."""
        expected = true_worth_of(program, [Fraction(*x) for x in inputs])
        told = true_bounds(program, inputs, places) if told is None else told
        if isinstance(expected, Fraction):
            expected = decimal_of(expected)
        low, high = [fraction_of(end) for end in told]
        self.assertTrue(is_fraction(told[0]) and is_fraction(told[1]))
        self.assertIs(told.__class__, tuple)
        self.assertLessEqual(low, high)
        self.assertLessEqual(high - low, Fraction(1, 10 ** places))
        little = EXACT.multiply(max(expected.copy_abs(), 1), CLOSE)
        self.assertLessEqual(decimal_of(low), EXACT.add(expected, little))
        self.assertGreaterEqual(decimal_of(high), EXACT.subtract(expected, little))
        return low, high

    def check_undecided(self, steps, step, inputs=()):
        program = (len(inputs), tuple(steps))
        for places in (0, 1, 100):
            with self.assertRaises(Undecided) as caught:
                true_bounds(program, inputs, places)
            self.assertEqual(caught.exception.step, step)
            self.assertIsInstance(caught.exception, NearError)

    def check_exact(self, steps, expected, inputs=()):
        program = (len(inputs), tuple(steps))
        for places in (0, 1, 3, 100):
            told = true_bounds(program, inputs, places)
            self.assertEqual(told, None if expected is None else (expected, expected))

    def test_programs_without_roots(self):
        random = Random(37)
        for _ in range(300):
            program = drawn_program(random, PLAIN_WORDS, random.randint(0, 3), random.randint(1, 20))
            inputs = tuple([drawn_fraction(random, 3) for _ in range(program[0])])
            self.check_exact(program[1], true_worth(program, inputs), inputs)

    def test_roots_of_squares(self):
        root = (("input", 0), ("root", 0))
        for x in ((0, 1), (1, 1), (4, 1), (1, 4), (9, 16), (49, 10 ** 60), (12345678910111213 ** 2, 7 ** 40), (3 ** 4400, 2 ** 6970)):
            self.check_exact(root, (isqrt(x[0]), isqrt(x[1])), (x,))
        self.check_exact([("told", (16, 81)), ("root", 0), ("root", 1), ("add", 1, 2)], (10, 9))
        self.check_exact([("told", (1, 4)), ("root", 0), ("take", 1, 0), ("by", 0, 2)], (1, 1))

    def test_roots_of_no_squares(self):
        for x in ((2, 1), (1, 2), (2, 9), (4, 3), (10 ** 2099 + 1, 7), (7, 10 ** 2099 + 1), (10 ** 400 - 1, 10 ** 400), (3, 10 ** 200)):
            for places in (0, 1, 3, 100):
                low, high = self.check_near((1, (("input", 0), ("root", 0))), (x,), places)
                self.assertLess(low ** 2, Fraction(*x))
                self.assertGreater(high ** 2, Fraction(*x))

    def test_roots_of_roots(self):
        for many in range(2, 9):
            program = (1, (("input", 0),) + tuple([("root", at) for at in range(many)]))
            for x in ((2, 1), (10 ** 90 + 1, 1), (1, 10 ** 90 + 1), (3, 7)):
                for places in (0, 3, 100):
                    low, high = self.check_near(program, (x,), places)
                    self.assertTrue(low ** 2 ** many < Fraction(*x) < high ** 2 ** many)

    def test_each_word_of_roots(self):
        random = Random(38)
        for program in each_word_program(tuple(PARTS)):
            steps = program[1][:3] + (("root", 0), ("root", 1), ("root", 2))
            word, *parts = program[1][3]
            roots = (3, steps + ((word,) + tuple([part + 3 for part in parts]),))
            for _ in range(12):
                inputs = tuple([pair_of(abs(Fraction(*drawn_fraction(random, 99))) + 1) for _ in range(3)])
                try:
                    true_worth_of(roots, [Fraction(*x) for x in inputs])
                except Close:
                    continue
                for places in (0, 1, 3, 100):
                    self.check_near(roots, inputs, places)

    def test_drawn_programs(self):
        random = Random(39)
        seen, told_none, undecided = {}, 0, 0
        for _ in range(500):
            program = drawn_program(random, tuple(PARTS) + ("root",) * 3, random.randint(0, 2), random.randint(3, 18))
            inputs = tuple([drawn_fraction(random, 30) for _ in range(program[0])])
            try:
                expected = true_worth_of(program, [Fraction(*x) for x in inputs])
            except Close:
                undecided += 1
                continue
            before = picture([program, inputs])
            told = true_bounds(program, inputs, 20)
            self.assertEqual(picture([program, inputs]), before)
            self.assertEqual(true_bounds(program, inputs, 20), told)
            if expected is None:
                told_none += 1
                self.assertIsNone(told)
            else:
                self.check_near(program, inputs, 20, told)
                if isinstance(expected, Fraction):
                    self.assertEqual(told, (pair_of(expected), pair_of(expected)))
                seen[expected.__class__.__name__] = seen.get(expected.__class__.__name__, 0) + 1
        self.assertTrue(seen["Decimal"] > 40 and seen["Fraction"] > 40 and told_none > 40, (seen, told_none, undecided))

    def test_a_root_times_a_long_fraction(self):
        for x in ((10 ** 2000 + 1, 7), (-10 ** 2000 + 1, 3), (10 ** 2099 - 1, 2)):
            for places in (0, 3, 100):
                program = (1, (TWO, ("root", 0), ("input", 0), ("times", 1, 2)))
                told = true_bounds(program, (x,), places)
                low, high = [abs(fraction_of(end)) for end in told]
                low, high = min(low, high), max(low, high)
                self.assertLessEqual(high - low, Fraction(1, 10 ** places))
                self.assertTrue(low ** 2 < 2 * Fraction(*x) ** 2 < high ** 2)
                self.assertEqual([end[0] > 0 for end in told], [x[0] > 0] * 2)
        steps = (TWO, ("root", 0), ("told", (10 ** 2000, 1)), ("times", 1, 2), ("times", 3, 2), ("take", 4, 1))
        low, high = [fraction_of(end) for end in true_bounds((0, steps), (), 50)]
        self.assertLessEqual(high - low, Fraction(1, 10 ** 50))
        self.assertTrue(low ** 2 < 2 * (10 ** 4000 - 1) ** 2 < high ** 2)

    def test_a_root_times_0_and_what_needs_no_root(self):
        root = [TWO, ("root", 0), ZERO, ONE]
        self.check_exact(root + [("times", 1, 2)], (0, 1))
        self.check_exact(root + [("times", 2, 1), ("by", 3, 4)], None)
        self.check_exact(root + [("fused", 1, 2, 3)], (1, 1))
        self.check_exact(root + [("by", 2, 1)], (0, 1))
        self.check_exact(root + [("by", 1, 2)], None)
        self.check_exact(root + [("least", 1, 3)], (1, 1))
        self.check_exact(root + [("greatest", 3, 0), ("greatest", 4, 1)], (2, 1))
        self.check_exact(root + [("least", 3, 1), ("root", 4)], (1, 1))
        for word, low, high in (("least", True, False), ("greatest", False, True)):
            for fraction, is_lesser in (((141, 100), True), ((142, 100), False)):
                told = true_bounds((0, (TWO, ("root", 0), ("told", pair_of(Fraction(*fraction))), (word, 1, 2))), (), 10)
                self.assertEqual(told[0] == told[1], low if is_lesser else high)

    def test_ifs(self):
        # The root of 2 is less than 3/2, not less than 7/5.
        ahead = [TWO, ("root", 0), ("told", (3, 2)), ("told", (7, 5)), ZERO, ("by", 0, 4)]
        for a, b, c, d, expected in (
            (1, 2, 0, 5, (2, 1)), (1, 3, 5, 0, (2, 1)), (2, 1, 5, 3, (7, 5)), (3, 1, 3, 5, (7, 5)), (1, 2, 5, 0, None),
            (3, 2, 3, 1, (7, 5)), (3, 3, 1, 2, (3, 2)), (5, 1, 0, 0, None), (1, 5, 0, 0, None),
        ):
            self.check_exact(ahead + [("if", a, b, c, d)], expected)
        told = true_bounds((0, tuple(ahead) + (("if", 1, 2, 1, 0),)), (), 5)
        self.assertNotEqual(told[0], told[1])
        self.check_near((0, tuple(ahead) + (("if", 1, 2, 1, 0),)), (), 5)

    def test_no_worth(self):
        root = (("input", 0), ("root", 0))
        for x in ((-1, 1), (-1, 10 ** 2000), (-2, 9), (-4, 1)):
            self.check_exact(root, None, (x,))
        self.check_exact([ONE, ZERO, ("by", 0, 1)], None)
        self.check_exact([TWO, ("root", 0), ONE, ("take", 2, 1), ("root", 3)], None)
        for word, many in PARTS.items():
            if word != "if":
                for place in range(many):
                    step = (word,) + tuple([2 if at == place else 4 for at in range(many)])
                    self.check_exact(NO_WORTH + (step,), None)

    def test_undecided(self):
        equal = list(EQUAL_ROOTS)
        self.check_undecided(equal + [("by", 4, 3)], 5)
        self.check_undecided(equal + [("by", 3, 3)], 5)
        self.check_undecided(equal + [("root", 3)], 5)
        self.check_undecided(equal + [("opposite", 3), ("root", 5)], 6)
        self.check_undecided(equal + [ZERO, ("if", 3, 5, 4, 4)], 6)
        self.check_undecided(equal + [ZERO, ("if", 5, 3, 4, 0)], 6)
        self.check_undecided(equal + [("if", 1, 2, 0, 4)], 5)
        self.check_undecided([TWO, ("root", 0), ("take", 1, 1), ("by", 0, 2)], 3)
        # The square of a root less what it is of, the root of such a thing, an "if" that asks it.
        square = [TWO, ("root", 0), ("times", 1, 1), ("take", 2, 0)]
        self.check_undecided(square + [("by", 0, 3)], 4)
        self.check_undecided(square + [("root", 3)], 4)
        self.check_undecided(square + [("if", 2, 0, 0, 0)], 4)
        self.check_undecided(square + [("if", 0, 2, 0, 0)], 4)
        self.check_undecided([("input", 0), ("root", 0), ("fused", 1, 1, 0), ("add", 0, 0), ("take", 2, 3), ("by", 0, 4)], 5, ((3, 7),))
        # Bounds of which one is 0.
        size = equal + [("size", 3), ("opposite", 5)]
        for at in (5, 6):
            self.check_undecided(size + [("by", 4, at)], 7)
        self.check_undecided(size + [("root", 6)], 7)
        # Two roots of a fourth and of a square: 2 ** (1 / 2).
        self.check_undecided([("told", (4, 1)), TWO, ("root", 0), ("root", 2), ("root", 1), ("take", 3, 4), ("by", 0, 5)], 6)

    def test_bounds_that_tell_enough_are_not_undecided(self):
        equal = EQUAL_ROOTS
        low, high = self.check_bounds_of_0((0, equal[:4]))
        self.assertTrue(low <= 0 <= high)
        # 0 times it is 0, its size is not below 0, and it is less than 1.
        self.check_exact(equal + (ZERO, ("times", 3, 5)), (0, 1))
        self.check_bounds_of_0((0, equal + (("size", 3), ("root", 5))))
        self.check_exact(equal + (("if", 3, 4, 0, 3),), (2, 1))
        self.check_bounds_of_0((0, equal + (ZERO, ("greatest", 3, 5), ("root", 6))))
        self.check_exact(equal + (("take", 3, 4), ("root", 5)), None)

    def test_no_root_is_given_up_ahead_of_300_places(self):
        # The bounds of roots of what may be 0 get near to one another more slowly.
        roots = EQUAL_ROOTS + (("size", 3), ("root", 5), ("root", 6), ("root", 7))
        told = ("told", (1, 10 ** 290))
        self.check_exact(roots + (told, ("if", 8, 9, 4, 0)), (1, 1))
        self.check_exact(roots + (told, ("if", 9, 8, 4, 0)), (2, 1))
        self.check_exact(roots + (told, ("take", 9, 8), ("by", 4, 10), ("if", 4, 11, 4, 0)), (1, 1))

    def check_bounds_of_0(self, program):
        for places in (100, 3, 0):
            low, high = [fraction_of(end) for end in true_bounds(program, (), places)]
            self.assertTrue(low <= 0 <= high and high - low <= Fraction(1, 10 ** places))
        return low, high

    def test_the_least_step_is_told(self):
        equal = EQUAL_ROOTS
        self.check_undecided(equal + (("by", 4, 3), ("root", 3), ("add", 5, 6)), 5)
        self.check_undecided(equal + (("root", 3), ("by", 4, 3), ("add", 6, 5)), 5)
        self.check_undecided(equal + (("root", 3), ("by", 4, 3), ("add", 6, 6)), 6)
        self.check_undecided(equal + (("root", 3), ("by", 4, 3), ("if", 6, 5, 4, 4)), 5)
        self.check_undecided(equal + (("root", 3), ("root", 5), ("by", 4, 6)), 5)

    def test_what_is_not_asked(self):
        equal = EQUAL_ROOTS + (("by", 4, 3), ("root", 3))
        self.check_exact(equal + (("add", 4, 4),), (2, 1))
        self.check_exact(equal + (("if", 4, 0, 4, 5),), (1, 1))
        self.check_exact(equal + (("if", 0, 4, 6, 4),), (1, 1))
        self.check_exact(equal + (("add", 5, 6), ("if", 1, 0, 4, 7),), (1, 1))
        self.check_undecided(equal + (("if", 4, 0, 5, 4),), 5)
        self.check_undecided(equal + (("if", 0, 4, 4, 6),), 6)
        # What is Undecided itself takes no side, so that none is asked.
        self.check_undecided(equal + (("if", 3, 3, 5, 6),), 7)
        self.check_undecided(equal + (("if", 6, 5, 4, 4),), 5)

    def test_what_hangs_on_it_beside_what_has_no_worth(self):
        both = EQUAL_ROOTS + (("by", 4, 3), ZERO, ("by", 4, 6))
        for word, many in PARTS.items():
            if many == 2:
                self.check_undecided(both + ((word, 5, 7),), 5)
                self.check_undecided(both + ((word, 7, 5),), 5)
        self.check_undecided(both + (("fused", 7, 7, 5),), 5)
        self.check_undecided(both + (("fused", 7, 5, 4),), 5)
        self.check_undecided(both + (("if", 5, 7, 4, 4),), 5)
        self.check_undecided(both + (("if", 7, 5, 4, 4),), 5)
        self.check_undecided(both + (("by", 7, 3),), 8)
        self.check_exact(both + (("if", 7, 4, 5, 5),), None)
        self.check_exact(both + (("if", 4, 0, 7, 5),), None)

    def test_roots_that_are_near_to_one_another(self):
        for places in (20, 50, 100, 140, 295):
            # The root of x, and the FRACTION of so many places below it, or above it.
            for x in (2, 3, 10 ** 9 + 1):
                whole = isqrt(x * 10 ** (2 * places))
                for c, expected in ((whole, (1, 1)), (whole + 1, (0, 1))):
                    told = ("told", pair_of(Fraction(c, 10 ** places)))
                    steps = (("told", (x, 1)), ("root", 0), told, ZERO, ONE, ("if", 2, 1, 4, 3))
                    self.check_exact(steps, expected)
                    self.check_near((0, steps[:3] + (("take", 1, 2), ("by", 0, 3))), (), 3)
                    for step, worth in ((("take", 1, 2), expected == (1, 1)), (("take", 2, 1), expected == (0, 1))):
                        self.assertEqual(true_bounds((0, steps[:3] + (step, ("root", 3))), (), 5) is not None, worth)
            # Two roots.
            near = (("told", (2 * 10 ** places + 1, 10 ** places)), TWO, ("root", 0), ("root", 1), ("take", 2, 3), ("by", 1, 4))
            self.check_near((0, near), (), 3)
            self.check_exact(near[:4] + (("if", 2, 3, 0, 1),), (2, 1))
            self.check_exact(near[:4] + (("if", 3, 2, 1, 0),), (2, 1))

    def test_many_steps(self):
        program = (0, (TWO, ("root", 0)) + tuple([("fused", at, 1, 1) for at in range(1, 29)]))
        for places in (0, 100):
            self.check_near(program, (), places)
        self.check_near((0, (TWO, ("root", 0)) + tuple([("times", at, at) for at in range(1, 8)]) + (("root", 8),)), (), 100)
        self.check_near((0, (TWO,) + tuple([("root", at) for at in range(29)])), (), 100)


if __name__ == "__main__":
    unittest.main()
