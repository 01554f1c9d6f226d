"""[2], [11]: what a thing is."""

import unittest

from nearestheld.forms import (
    are_flags, is_box, is_format, is_fraction, is_integer, is_number, is_outcome, is_plain, is_program,
    is_span, is_value, is_way,
)
from reference import SMALL_FORMATS, WAYS, numbers_of, values_of, worth_of
from things import Odd, check_any_value, variants

SMALL = (2, 3, -2, 1)
WIDE = (36, 120, -1200, 1200)
HALF = ("told", (1, 2))
WORDS = {
    "add": 2, "take": 2, "times": 2, "by": 2, "fused": 3, "root": 1, "opposite": 1, "size": 1,
    "least": 2, "greatest": 2, "if": 4,
}
EVERY_WORD = (2, (
    ("input", 0), ("input", 1), HALF, ("add", 0, 1), ("take", 1, 0), ("times", 3, 3), ("by", 2, 5),
    ("fused", 0, 1, 2), ("opposite", 7), ("size", 8), ("least", 9, 0), ("greatest", 9, 10),
    ("if", 11, 10, 9, 8),
))


def low_end(c, e=-2, s=0):
    return ("num", s, c, e)


class AnyValue(unittest.TestCase):
    def test_each_function_tells_a_truth_of_any_value(self):
        program = (1, (("input", 0), HALF, ("times", 0, 1), ("if", 0, 1, 2, 1)))
        span = ("span", low_end(1), ("inf", 0))
        made = [program, span, (span, ("none",)), (low_end(5, 1), ("inexact", "tiny")), SMALL, (6, 35)]
        extra = made + [other for thing in made for other in variants(thing)]
        for told in (is_integer, is_fraction, is_format, is_way, are_flags, is_program, is_plain):
            check_any_value(self, told, extra)
        for form in (SMALL, WIDE):
            for told in (is_number, is_value, is_outcome, is_span):
                check_any_value(self, lambda thing: told(form, thing), extra)
            for many in (0, 1, 2, 3000):
                check_any_value(self, lambda thing: is_box(form, many, thing), extra)


class Plain(unittest.TestCase):
    def test_integers(self):
        for thing in (0, 1, -1, 10 ** 200, -10 ** 200):
            self.assertIs(is_integer(thing), True)
        for thing in (True, False, None, 1.0, "1", (1,), [1], {}, Odd()):
            self.assertIs(is_integer(thing), False)

    def test_fractions(self):
        for thing in ((0, 1), (1, 1), (-1, 1), (1, 2), (-7, 3), (10 ** 200, 10 ** 200 + 1)):
            self.assertIs(is_fraction(thing), True, thing)
        for thing in ((0, 2), (6, 4), (-6, 4), (1, 0), (0, 0), (1, -1), (-1, -2), (1, -2), [1, 2], (1,),
                      (1, 2, 3), (True, 1), (1, True), (False, 1), (1.0, 2), ("1", 2), (None, 1), 1):
            self.assertIs(is_fraction(thing), False, thing)

    def test_ways(self):
        for way in WAYS:
            self.assertIs(is_way(way), True)
        for thing in ("near", "", "Even", "evenaway", "even ", ["even"], ("even",), None, 0, True, b"up"):
            self.assertIs(is_way(thing), False)

    def test_flags(self):
        words = ("by", "inexact", "invalid", "over", "tiny")
        for mask in range(32):
            flags = tuple([word for at, word in enumerate(words) if mask >> at & 1])
            self.assertIs(are_flags(flags), True)
            self.assertIs(are_flags(list(flags)), False)
            if len(flags) > 1:
                self.assertIs(are_flags(flags[::-1]), False)
            if flags:
                self.assertIs(are_flags(flags + flags[-1:]), False)
                self.assertIs(are_flags(flags[:1] + flags), False)
        for thing in ("by", ("under",), ("by", "zero"), ("inexact", 1), (["by"],), ("",), (True,), {}, None):
            self.assertIs(are_flags(thing), False, thing)


class Formats(unittest.TestCase):
    def test_at_each_bound(self):
        for thing in ((2, 2, 0, 0), (36, 120, -1200, 1200), (2, 120, -1200, -1200), (36, 2, 1200, 1200),
                      (10, 2, -1, 0), SMALL):
            self.assertIs(is_format(thing), True, thing)

    def test_one_beyond_each_bound(self):
        for thing in ((0, 2, 0, 0), (1, 2, 0, 0), (37, 2, 0, 0), (38, 2, 0, 0), (3, 3, 0, 0), (35, 2, 0, 0),
                      (-2, 2, 0, 0), (2, 1, 0, 0), (2, 121, 0, 0), (2, 2, -1201, 0), (2, 2, 0, 1201),
                      (2, 2, 1201, 1201), (2, 2, -1201, -1201), (10, 2, 1, 0), (10, 2, 1200, -1200)):
            self.assertIs(is_format(thing), False, thing)

    def test_wrong_kinds(self):
        for thing in ([2, 3, -2, 1], (2, 3, -2), (2, 3, -2, 1, 0), (2, 3, False, 1), (2, 3, -2, True),
                      (2.0, 3, -2, 1), ("2", 3, -2, 1), (2, None, -2, 1), (), None, "2321"):
            self.assertIs(is_format(thing), False, thing)


class Values(unittest.TestCase):
    def test_numbers_are_just_those_of_the_format(self):
        for form in SMALL_FORMATS:
            base, digits, low, high = form
            real = dict.fromkeys(numbers_of(form), True)
            for s in (-1, 0, 1, 2):
                for e in range(low - 1, high + 2):
                    for c in (-1, 0, 1, 2, base ** (digits - 1) - 1, base ** (digits - 1), base ** digits - 1,
                              base ** digits, base ** (digits - 1) + 1):
                        thing = ("num", s, c, e)
                        self.assertIs(is_number(form, thing), thing in real, (form, thing))

    def test_each_number_is_one(self):
        for form in SMALL_FORMATS:
            for number in numbers_of(form):
                self.assertIs(is_number(form, number), True)
                self.assertIs(is_value(form, number), True)

    def test_the_widest_format(self):
        base, digits, low, high = WIDE
        top, full = base ** digits - 1, base ** (digits - 1)
        for c, e in ((top, high), (full, high), (full, low + 1), (full - 1, low), (1, low), (0, low), (top, low)):
            self.assertIs(is_number(WIDE, ("num", 0, c, e)), True)
        for c, e in ((top + 1, high), (top, high + 1), (full - 1, low + 1), (0, low + 1), (full, low - 1)):
            self.assertIs(is_number(WIDE, ("num", 1, c, e)), False)

    def test_wrong_kinds_of_numbers(self):
        for thing in (("num", True, 4, 0), ("num", False, 4, 0), ("num", 0, True, -2), ("num", 0, 4, False),
                      ("num", 0, 4), ("num", 0, 4, 0, 0), ["num", 0, 4, 0], ("inf", 0, 4, 0), (0, 4, 0),
                      ("num", 0, 4.0, 0), ("num", "0", 4, 0), ("num", 0, None, 0), ("NUM", 0, 4, 0)):
            self.assertIs(is_number(SMALL, thing), False, thing)
        for thing in (("inf", 0), ("inf", 1), ("nan",)):
            self.assertIs(is_number(SMALL, thing), False)

    def test_values(self):
        for thing in (("inf", 0), ("inf", 1), ("nan",)):
            self.assertIs(is_value(SMALL, thing), True)
        for thing in (("inf",), ("inf", 2), ("inf", -1), ("inf", True), ("inf", False), ("inf", None), ["inf", 0],
                      ("inf", 0, 0), ("nan", 0), ["nan"], "nan", ("Nan",), (), ("none",), ("num", 0, 3, 0)):
            self.assertIs(is_value(SMALL, thing), False, thing)

    def test_changed_values_are_values_only_if_the_document_has_them(self):
        real = {repr(value) for value in values_of(SMALL)}
        for value in values_of(SMALL):
            for thing in variants(value):
                self.assertIs(is_value(SMALL, thing), repr(thing) in real, thing)

    def test_outcomes(self):
        for value in values_of(SMALL):
            self.assertIs(is_outcome(SMALL, (value, ())), True)
            self.assertIs(is_outcome(SMALL, (value, ("by", "over"))), True)
            self.assertIs(is_outcome(SMALL, (value, ["by", "over"])), False)
            self.assertIs(is_outcome(SMALL, (value, ("over", "by"))), False)
            self.assertIs(is_outcome(SMALL, [value, ()]), False)
        for thing in ((("nan",),), (("nan",), (), ()), (("num", 0, 3, 0), ()), ((), ()), ("nan", ()), None,
                      (("nan",), None), (("inf", True), ())):
            self.assertIs(is_outcome(SMALL, thing), False, thing)


class Programs(unittest.TestCase):
    def test_all_words(self):
        self.assertIs(is_program(EVERY_WORD), True)
        for word, many in WORDS.items():
            step = (word,) + (0,) * many
            self.assertIs(is_program((0, (HALF, step))), True, word)
            self.assertIs(is_program((0, (HALF, step + (0,)))), False, word)
            self.assertIs(is_program((0, (HALF, step[:-1]))), False, word)
            self.assertIs(is_program((0, (HALF, list(step)))), False, word)

    def test_steps_name_earlier_steps_only(self):
        for word, many in WORDS.items():
            for at in range(many):
                for index in (1, 2, -1, 10 ** 200, True, False, None, "0", 0.0, (0,)):
                    step = [word] + [0] * many
                    step[at + 1] = index
                    self.assertIs(is_program((0, (HALF, tuple(step), HALF))), False, step)
                step = [word] + [0] * many
                step[at + 1] = 1
                self.assertIs(is_program((0, (HALF, HALF, tuple(step)))), True, step)

    def test_inputs_and_told_ones(self):
        self.assertIs(is_program((2, (("input", 1),))), True)
        for many, step in ((0, ("input", 0)), (1, ("input", 1)), (1, ("input", -1)), (2, ("input", True)),
                           (1, ("input", False)), (1, ("input",)), (1, ("input", 0, 0)), (1, ("input", "0")),
                           (1, ("told",)), (1, ("told", (6, 4))), (1, ("told", 1)), (1, ("told", 1, 2)),
                           (1, ("told", [1, 2])), (1, ("told", (1, 0))), (1, ("told", (True, 1))),
                           (1, ("pow", 0)), (1, ("Input", 0)), (1, ("", 0)), (1, (0, 0)), (1, (None,)),
                           (1, ()), (1, "input"), (1, ["input", 0]), (1, (["input"], 0))):
            self.assertIs(is_program((many, (step,))), False, step)

    def test_the_frame(self):
        for thing in ((0, ()), (0, [HALF]), [0, (HALF,)], (0,), (0, (HALF,), 0), (-1, (HALF,)), (True, (HALF,)),
                      (False, (HALF,)), (None, (HALF,)), ((HALF,), 0), ("0", (HALF,)), (0.0, (HALF,)), HALF):
            self.assertIs(is_program(thing), False, thing)
        self.assertIs(is_program((10 ** 200, (HALF,))), True)

    def test_no_bounds_are_asked(self):
        long_one = (0, (HALF,) + tuple([("add", at, 0) for at in range(2000)]))
        self.assertIs(is_program(long_one), True)
        self.assertIs(is_program((7, tuple([("input", at) for at in range(7)]))), True)
        self.assertIs(is_program((0, (("told", (10 ** 3000, 1)),))), True)

    def test_plain_ones(self):
        self.assertIs(is_plain(EVERY_WORD), True)
        self.assertIs(is_plain((0, (HALF, ("root", 0)))), False)
        self.assertIs(is_plain((0, (HALF, ("root", 0), HALF))), False)
        for thing in ((0, (HALF, ("root", 1))), (0, ()), None, (0, (HALF, ("add", 0, 1)))):
            self.assertIs(is_plain(thing), False)


class Spans(unittest.TestCase):
    def test_all_pairs_of_ends(self):
        values = values_of(SMALL)
        for low in values:
            for high in values:
                self.assertIs(is_span(SMALL, ("span", low, high)), self.are_ends(low, high), (low, high))

    def are_ends(self, low, high):
        for end in (low, high):
            if end[0] == "nan" or (end[0] == "num" and end[2] == 0 and end[1] == 1):
                return False
        if low == ("inf", 0) or high == ("inf", 1):
            return False
        if low[0] == "inf" or high[0] == "inf":
            return True
        return worth_of(SMALL, low) <= worth_of(SMALL, high)

    def test_other_things(self):
        one, two = low_end(4), low_end(5)
        self.assertIs(is_span(SMALL, ("none",)), True)
        for thing in (("none", 0), ["none"], "none", ("span", one), ("span", one, two, two), ["span", one, two],
                      ("span", one, list(two)), ("Span", one, two), (one, two), ("span", one, low_end(3, 0)),
                      ("none", one, two), ("span",), ("span", low_end(True), two), None, ()):
            self.assertIs(is_span(SMALL, thing), False, thing)

    def test_boxes(self):
        span = ("span", low_end(4), ("inf", 0))
        for many in range(4):
            for length in range(4):
                self.assertIs(is_box(SMALL, many, (span, ("none",), span)[:length]), many == length)
        for thing in ([span], (("span", ("inf", 0), ("inf", 0)),), (None,), span, ("none",), {0: span}):
            self.assertIs(is_box(SMALL, 1, thing), False, thing)
        self.assertIs(is_box(SMALL, 3000, (span,) * 3000), True)


if __name__ == "__main__":
    unittest.main()
