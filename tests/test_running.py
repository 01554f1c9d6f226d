"""[35], [36]: programs run in a format, and how far off their results are."""

import unittest
from fractions import Fraction
from itertools import product
from random import Random

from drawn import PARTS, PLAIN_WORDS, drawn_program, each_word_program, outcome_of_word, true_worth_of
from nearestheld.errors import NearError, TooMany
from nearestheld.running import error_at, result_of, run, worst_error
from reference import (
    LARGE_FORMATS, SMALL_FORMATS, WAYS, greatest_size, numbers_of, outcome_in_large, pair_of, some_numbers, some_of, values_of, worth_of,
)
from things import picture

SMALL, TENS = (2, 3, -2, 1), (10, 2, -3, 3)
NAN, TOP, BOTTOM = ("nan",), ("inf", 0), ("inf", 1)
PLUS, MINUS = ("num", 0, 0, -3), ("num", 1, 0, -3)
ONE, TWO, THREE, SEVEN = [("num", 0, c, -1) for c in (10, 20, 30, 70)]
THIRD = (1, (("input", 0), ("told", (3, 1)), ("by", 0, 1), ("add", 0, 1), ("times", 2, 1)))


def is_below(form, x, y):
    """Whether a VALUE is less than another one, by Fractions."""
    if NAN in (x, y):
        return False
    places = [(1 - 2 * value[1]) * 10 ** 9 * greatest_size(form) if value[0] == "inf" else worth_of(form, value) for value in (x, y)]
    return places[0] < places[1]


def expected_run(program, form, way, values):
    made, flags = [], set()
    for word, *parts in program[1]:
        if word == "input":
            told = (values[parts[0]], ())
        elif word == "told":
            told = outcome_in_large(form, way, Fraction(*parts[0]), 0)
        elif word == "if":
            a, b, c, d = [made[part] for part in parts]
            told = (c if is_below(form, a, b) else d, ())
        else:
            told = outcome_of_word(form, way, word, [made[part] for part in parts])
        made.append(told[0])
        flags |= set(told[1])
    return (made, tuple(sorted(flags)))


class Runs(unittest.TestCase):
    def check(self, program, form, way, values):
        before = picture([program, form, values])
        told = run(program, form, way, values)
        self.assertEqual(told, expected_run(program, form, way, values))
        self.assertEqual([told.__class__, told[0].__class__, told[1].__class__], [tuple, list, tuple])
        self.assertEqual(result_of(program, form, way, values), told[0][-1])
        self.assertEqual(picture([program, form, values]), before)
        return told

    def test_each_word_by_each_way(self):
        random = Random(35)
        for form in SMALL_FORMATS:
            values = values_of(form)
            for program in each_word_program(tuple(PARTS)):
                for way in WAYS:
                    for _ in range(6):
                        self.check(program, form, way, tuple(random.choices(values, k=3)))

    def test_drawn_programs(self):
        random = Random(36)
        seen = {}
        for at in range(500):
            form = random.choice(SMALL_FORMATS)
            program = drawn_program(random, tuple(PARTS), random.randint(0, 3), random.randint(1, 30))
            values = random.choices(values_of(form) if at % 2 else numbers_of(form), k=program[0])
            for way in WAYS:
                told = self.check(program, form, way, tuple(values))
                self.assertEqual(run(program, form, way, values), told)
                seen.update({word: True for word in told[1]})
        self.assertEqual(set(seen), {"by", "inexact", "invalid", "over", "tiny"})

    def test_large_formats(self):
        random = Random(37)
        for form in LARGE_FORMATS:
            for at in range(30):
                program = drawn_program(random, tuple(PARTS), 2, 12)
                self.check(program, form, WAYS[at % 5], tuple(some_numbers(form, 2, at)))

    def test_what_is_told(self):
        for fraction in ((0, 1), (1, 3), (-1, 3), (5, 2), (12, 1), (99000, 1), (99499, 1), (99500, 1), (-10 ** 9, 1), (1, 1000),
                         (1, 2000), (-1, 2000), (1, 10 ** 30), (-1, 10 ** 30), (3, 400), (10 ** 2099 + 1, 7), (7, 10 ** 2099 + 1)):
            for way in WAYS:
                self.check((0, (("told", fraction),)), TENS, way, ())
        self.assertEqual(run((0, (("told", (0, 1)),)), TENS, "down", ()), ([PLUS], ()))
        self.assertEqual(run((0, (("told", (-1, 10 ** 9)),)), TENS, "up", ()), ([MINUS], ("inexact", "tiny")))
        self.assertEqual(run((0, (("told", (10 ** 9, 1)),)), TENS, "zero", ()), ([("num", 0, 99, 3)], ("inexact", "over")))
        self.assertEqual(run((0, (("told", (-10 ** 9, 1)),)), TENS, "even", ()), ([BOTTOM], ("inexact", "over")))

    def test_inputs_of_all_kinds(self):
        plus = (2, (("input", 0), ("input", 1), ("add", 0, 1)))
        for x, y, told in (
            (NAN, ONE, ([NAN, ONE, NAN], ())), (TOP, BOTTOM, ([TOP, BOTTOM, NAN], ("invalid",))), (TOP, ONE, ([TOP, ONE, TOP], ())),
            (MINUS, MINUS, ([MINUS] * 3, ())), (PLUS, MINUS, ([PLUS, MINUS, PLUS], ())),
        ):
            self.assertEqual(self.check(plus, TENS, "even", (x, y)), told)
        self.assertEqual(run(plus, TENS, "down", (PLUS, MINUS)), ([PLUS, MINUS, MINUS], ()))
        same = (1, (("input", 0),))
        for value in (NAN, TOP, BOTTOM, PLUS, MINUS, ONE):
            self.assertEqual(run(same, TENS, "up", (value,)), ([value], ()))

    def test_ifs(self):
        program = (2, (("input", 0), ("input", 1), ("told", (1, 1)), ("told", (2, 1)), ("if", 0, 1, 2, 3)))
        for x, y, told in (
            (ONE, TWO, ONE), (TWO, ONE, TWO), (ONE, ONE, TWO), (PLUS, MINUS, TWO), (MINUS, PLUS, TWO), (NAN, ONE, TWO), (ONE, NAN, TWO),
            (NAN, NAN, TWO), (BOTTOM, ONE, ONE), (ONE, TOP, ONE), (BOTTOM, TOP, ONE), (TOP, TOP, TWO), (TOP, ONE, TWO), (BOTTOM, BOTTOM, TWO),
        ):
            self.assertEqual(self.check(program, TENS, "even", (x, y)), ([x, y, ONE, TWO, told], ()))

    def test_flags_of_steps_on_which_the_result_does_not_hang(self):
        steps = (("told", (1, 1)), ("told", (0, 1)), ("told", (1, 3)), ("by", 0, 1), ("by", 1, 1), ("told", (1, 3000)), ("told", (10 ** 6, 1)))
        flags = ("inexact", "by", "invalid", "tiny", "over")
        for many, told in ((2, ()), (3, ("inexact",)), (4, ("by", "inexact")), (5, ("by", "inexact", "invalid")),
                           (6, ("by", "inexact", "invalid", "tiny")), (7, tuple(sorted(flags)))):
            self.assertEqual(run((0, steps[:many] + (("add", 0, 0),)), TENS, "even", ())[1], told)

    def test_the_list_may_be_changed(self):
        for _ in range(2):
            made, flags = run(THIRD, TENS, "even", (ONE,))
            self.assertEqual([made[-1], len(made), flags], [("num", 0, 99, -2), 5, ("inexact",)])
            made.clear()


class Errors(unittest.TestCase):
    def expected(self, program, form, way, values):
        result = expected_run(program, form, way, values)[0][-1]
        exact = true_worth_of(program, [worth_of(form, value) for value in values])
        return None if exact is None or result[0] != "num" else pair_of(abs(worth_of(form, result) - exact))

    def check(self, program, form, way, values):
        told = error_at(program, form, way, values)
        self.assertEqual(told, self.expected(program, form, way, values))
        return told

    def test_each_word_and_drawn_programs(self):
        random = Random(38)
        told = []
        for at in range(600):
            form = random.choice(SMALL_FORMATS + (TENS,))
            programs = each_word_program(PLAIN_WORDS)
            program = programs[at % len(programs)] if at < 200 else drawn_program(random, PLAIN_WORDS, 2, random.randint(3, 20))
            values = tuple(random.choices(numbers_of(form), k=program[0]))
            for way in WAYS:
                told.append(self.check(program, form, way, values))
        self.assertGreater(told.count(None), 100)
        self.assertGreater(len(told) - told.count(None) - told.count((0, 1)), 100)

    def test_known_ones(self):
        self.assertEqual(self.check(THIRD, TENS, "even", (ONE,)), (1, 100))
        self.assertEqual(self.check(THIRD, TENS, "up", (ONE,)), (1, 10))
        for zero in (PLUS, MINUS):
            self.assertEqual(self.check(THIRD, TENS, "even", (zero,)), (0, 1))
            self.assertIsNone(self.check((1, (("input", 0), ("by", 0, 0))), TENS, "even", (zero,)))
            self.assertIsNone(self.check((1, (("input", 0), ("told", (1, 1)), ("by", 1, 0))), TENS, "even", (zero,)))

    def test_no_worth_or_no_number(self):
        # No TRUE worth, but a NUMBER: told 1 by what is 0, but was ROUNDED away from it. And a worth, but an inf, a nan.
        tiny = ("told", (1, 10 ** 9))
        steps = (("told", (1, 3)), ("told", (1, 3)), ("told", (1, 3)), ("told", (1, 1)), ("add", 0, 1), ("add", 4, 2), ("take", 5, 3), ("by", 3, 6))
        for way in WAYS:
            self.assertIsNone(self.check((0, steps), TENS, way, ()))
        self.assertEqual(run((0, steps), TENS, "even", ())[0][-1][0], "num")
        for way in ("even", "away", "up", "down", "zero"):
            told = self.check((0, (tiny, ("told", (1, 1)), ("by", 1, 0))), TENS, way, ())
            self.assertEqual(told is None, way != "up")
        self.assertIsNone(self.check((0, (("told", (10 ** 9, 1)),)), TENS, "even", ()))
        self.assertEqual(self.check((0, (("told", (10 ** 9, 1)),)), TENS, "zero", ()), (10 ** 9 - 99000, 1))
        self.assertIsNone(self.check((0, (("told", (10 ** 9, 1)), ("take", 0, 0))), TENS, "even", ()))
        self.assertIsNone(self.check((1, (("input", 0), ("times", 0, 0))), TENS, "up", (("num", 1, 99, 3),)))

    def test_long_fractions(self):
        for n in (10 ** 2099 + 1, 3 ** 4400):
            program = (1, (("input", 0), ("told", (1, n)), ("add", 0, 1)))
            self.assertEqual(self.check(program, TENS, "even", (ONE,)), (1, n))


class Worst(unittest.TestCase):
    def check(self, program, form, way, lists):
        before = picture([program, lists])
        told = worst_error(program, form, way, lists)
        worst = None
        for values in product(*lists):
            error = error_at(program, form, way, values)
            if error is not None and (worst is None or Fraction(*error) > Fraction(*worst[0])):
                worst = (error, values)
        self.assertEqual(told, worst)
        self.assertEqual(picture([program, lists]), before)
        return told

    def test_against_going_through_all(self):
        random = Random(39)
        for at in range(120):
            form = random.choice(SMALL_FORMATS + (TENS,))
            programs = each_word_program(PLAIN_WORDS)
            program = programs[at % len(programs)] if at < 40 else drawn_program(random, PLAIN_WORDS, random.randint(1, 4), random.randint(4, 12))
            lists = tuple([random.sample(some_of(numbers_of(form), 60), random.randint(1, 4)) for _ in range(program[0])])
            self.check(program, form, random.choice(WAYS), lists)

    def test_known_ones(self):
        self.assertEqual(self.check(THIRD, TENS, "even", ([ONE, SEVEN],)), ((1, 10), (SEVEN,)))
        self.assertEqual(self.check(THIRD, TENS, "even", ([ONE],)), ((1, 100), (ONE,)))

    def test_the_first_choice_of_several(self):
        plus = (2, (("input", 0), ("input", 1), ("told", (1, 3))))
        for lists in (([ONE, TWO], [THREE, SEVEN]), ([TWO, ONE], [SEVEN, THREE]), ([TWO, TWO], [PLUS, MINUS])):
            self.assertEqual(self.check(plus, TENS, "even", lists), ((1, 300), (lists[0][0], lists[1][0])))
        # The last list turns first: the error hangs on the last input alone, then on the first one alone.
        third = (2, (("input", 0), ("input", 1), ("told", (3, 1)), ("by", 1, 2)))
        self.assertEqual(self.check(third, TENS, "even", ([ONE, TWO], [THREE, ONE, ONE]))[1], (ONE, ONE))
        third = (2, (("input", 0), ("input", 1), ("told", (3, 1)), ("by", 0, 2)))
        self.assertEqual(self.check(third, TENS, "even", ([THREE, ONE], [SEVEN, TWO]))[1], (ONE, SEVEN))

    def test_none_has_an_error(self):
        by = (2, (("input", 0), ("input", 1), ("by", 0, 1)))
        self.assertIsNone(self.check(by, TENS, "even", ([ONE, TWO], [PLUS, MINUS])))
        self.assertEqual(self.check(by, TENS, "even", ([ONE, TWO], [PLUS, THREE, MINUS])), ((1, 300), (ONE, THREE)))

    def test_no_input(self):
        self.assertEqual(worst_error((0, (("told", (1, 3)),)), TENS, "up", ()), ((1, 150), ()))
        self.assertEqual(worst_error((0, (("told", (1, 2)),)), TENS, "up", ()), ((0, 1), ()))
        self.assertIsNone(worst_error((0, (("told", (10 ** 9, 1)),)), TENS, "up", ()))

    def test_too_many(self):
        program = (2, (("input", 0), ("input", 1), ("add", 0, 1)))
        numbers = numbers_of((10, 2, -2, 3))
        for counts, is_told in (((2000, 1), True), ((1, 2000), True), ((40, 50), True), ((2001, 1), False), ((1, 2001), False),
                                ((667, 3), False), ((45, 45), False), ((3000, 3000), False)):
            lists = tuple([(numbers * 4)[:many] for many in counts])
            if is_told:
                self.assertEqual(len(worst_error(program, (10, 2, -2, 3), "even", lists)[1]), 2)
                continue
            with self.assertRaises(TooMany) as caught:
                worst_error(program, (10, 2, -2, 3), "even", lists)
            self.assertEqual(caught.exception.most, 2000)
            self.assertIsInstance(caught.exception, NearError)
        one = (6, (("input", 5),))
        self.assertEqual(worst_error(one, TENS, "even", ([ONE] * 4, [TWO] * 5, [ONE] * 10, [ONE] * 2, [TWO] * 5, [TWO])), ((0, 1), (ONE, TWO, ONE, ONE, TWO, TWO)))
        self.assertRaises(TooMany, worst_error, one, TENS, "even", ([ONE] * 10 ** 4,) * 6)


if __name__ == "__main__":
    unittest.main()
