"""[3]: nothing that is handed in is changed, what is returned may be, and equal arguments give equal results."""

import copy
import unittest

from nearestheld import (
    bounding, enclosed, errorpapers, formats, judging, parted, parting, programs, reader, running, shortest, shower, spanops, spans,
    staying, sums, texts, truth, turning, words,
)
from nearestheld.bench import Bench
from nearestheld.errors import NearError
from nearestheld.heap import Heap
from things import picture

SMALL, TENS = (2, 3, -2, 1), (10, 2, -2, 0)
SEVEN, TINY, TOP = ("num", 1, 7, 1), ("num", 0, 1, -2), ("inf", 0)
ONE, TWO = (1, (("input", 0),)), (2, (("input", 0), ("input", 1), ("told", (1, 2)), ("fused", 0, 1, 2)))
HALF, HILL = ("told", (1, 2)), (1, (("input", 0), ("told", (2, 1)), ("take", 1, 0), ("times", 0, 2)))
OPEN = (0, (HALF, ("root", 0), ("root", 0), ("take", 1, 2), ("by", 0, 3)))
SOME, NEAR = ("span", ("num", 0, 4, 0), ("num", 0, 4, 1)), ("span", ("num", 0, 0, -2), ("num", 0, 6, 0))
SPAN, NO_SPAN, BOX = ("span", ("num", 0, 4, -2), ("num", 0, 7, 0)), ("none",), (("span", ("num", 0, 4, -2), ("num", 0, 7, 0)),)
ROWS = ((SOME, (0, 1)), (SOME, (1, 2)), (NEAR, (2, 1)), (("span", ("num", 1, 7, 1), ("num", 0, 7, 1)), (99, 1)))
PARTED = ("part", 0, ("in",), ("part", 0, ("in",), ("in",)))
# Each function of these modules with arguments of it; lists where lists may be.
CALLS = (
    (truth, "true_worths", TWO, ((1, 2), (1, 3))), (truth, "true_worth", TWO, ((1, 2), (1, 3))), (truth, "true_bounds", OPEN, (), 20),
    (truth, "true_bounds", (0, (HALF, ("root", 0))), (), 20), (running, "run", TWO, SMALL, "up", (SEVEN, TINY)), (running, "run", TWO, SMALL, "up", (TOP, TINY)),
    (running, "result_of", TWO, SMALL, "up", (SEVEN, TINY)), (running, "error_at", TWO, SMALL, "up", (SEVEN, TINY)),
    (running, "worst_error", TWO, SMALL, "up", ([SEVEN, TINY], [TINY, SEVEN])), (running, "worst_error", TWO, SMALL, "up", ([SEVEN] * 50, [TINY] * 41)),
    (spans, "span_of", SMALL, (1, 3), (2, 3)), (spans, "whole_span"), (spans, "hull", SMALL, SOME, SPAN), (spans, "meet", SMALL, SOME, SPAN),
    (spans, "span_into", SMALL, TENS, SPAN), (spans, "holds", SMALL, SPAN, (1, 3)), (spans, "lies_in", SMALL, SPAN, NEAR), (spans, "width_of", SMALL, SPAN),
    (spans, "side_of", SMALL, SPAN, SOME), (spanops, "span_result", SMALL, "fused", (SPAN, SOME, NEAR)), (spanops, "span_result", SMALL, "by", (SOME, NEAR)),
    (enclosed, "enclosed", HILL, SMALL, BOX), (enclosed, "result_within", HILL, SMALL, BOX), (parting, "middle_of", SMALL, SPAN),
    (parting, "widest", SMALL, BOX + (NO_SPAN, SOME)), (parting, "parted_box", SMALL, BOX + (SOME,), 1), (parting, "parted_result", HILL, SMALL, BOX, 3),
    (staying, "is_stay_paper", HILL, SMALL, BOX, SOME, ["in"]), (staying, "is_stay_paper", HILL, SMALL, BOX, SOME, PARTED),
    (staying, "is_leave_paper", HILL, SMALL, BOX, SOME, ["point", [(1, 1)]]), (staying, "is_leave_paper", HILL, SMALL, BOX, SOME, ("point", ((1, 1),))),
    (staying, "stay_paper", HILL, SMALL, BOX, ("span", SEVEN, ("num", 0, 7, 1)), 3), (staying, "leave_paper", HILL, SMALL, BOX, SOME, 3),
    (staying, "boxes_left", HILL, SMALL, BOX, SOME, 3), (errorpapers, "rule_kept", HILL, SMALL, "even", (SOME,), ROWS, 2),
    (errorpapers, "far_of", SMALL, SPAN), (errorpapers, "near_of", SMALL, SPAN), (judging, "is_paper", HILL, SMALL, "even", (SOME,), list(ROWS)),
    (judging, "is_paper", HILL, SMALL, "even", (SOME,), ROWS), (judging, "broken_step", HILL, SMALL, "even", (SOME,), ROWS),
    (judging, "widened", HILL, SMALL, "even", (SOME,), ROWS, 1, (1, 7)), (judging, "bound_of", ROWS), (bounding, "error_paper", HILL, SMALL, "even", (NEAR,)),
    (bounding, "error_paper", HILL, SMALL, "even", (("span", SEVEN, SEVEN),)), (bounding, "error_bound", HILL, SMALL, "even", (NEAR,)),
    (formats, "greatest_number", SMALL), (formats, "least_normal", SMALL), (formats, "least_tiny", SMALL),
    (formats, "numbers_many", SMALL), (formats, "rank_of", SMALL, SEVEN), (formats, "steps_between", SMALL, SEVEN, TINY),
    (formats, "unit_of", SMALL, SEVEN), (formats, "numbers_of", SMALL), (formats, "numbers_of", (10, 2, 0, 900)),
    (formats, "value_at", SMALL, 20), (formats, "next_up", SMALL, SEVEN), (formats, "next_down", SMALL, SEVEN),
    (turning, "turned", SMALL, "up", TENS, SEVEN), (turning, "from_integer", SMALL, "up", 9),
    (turning, "integer_of", SMALL, "up", TINY), (turning, "is_within", SMALL, TENS), (turning, "lost_number", TENS, SMALL),
    (words, "is_decimal", [0, 1, 2]), (words, "is_decimal", (0, 1, 2)), (words, "digit_text", 36, 10 ** 9),
    (words, "digits_in", 16, "ff"), (words, "decimal_worth", (1, 25, -1)), (words, "trimmed", (1, 250, -1)),
    (words, "digits_many", (1, 250, -1)), (words, "decimal_of", "-1.25e3"), (words, "decimal_of", ["1"]),
    (reader, "read_decimal", SMALL, "even", (0, 11, -1)), (reader, "read", SMALL, "even", "1.1"), (reader, "read", [SMALL], 1, "1"),
    (reader, "reads_back", SMALL, (0, 1, 0), ("num", 0, 4, -2)), (reader, "show_own", SMALL, SEVEN),
    (reader, "read_own", SMALL, "-1.11@3"), (reader, "read_own", SMALL, [1]),
    (shortest, "stretch_of", SMALL, SEVEN), (shortest, "shortest", SMALL, SEVEN), (shortest, "fewer_paper", SMALL, SEVEN),
    (shortest, "is_shortest", SMALL, SEVEN, [1, 14, 0]), (shortest, "is_fewer_paper", SMALL, SEVEN, [1, 1]),
    (shower, "told_digits", SMALL, SEVEN, 3, "up"), (shower, "told_places", SMALL, SEVEN, 3, "up"),
    (shower, "enough_digits", SMALL), (shower, "kept_digits", SMALL),
    (texts, "plain_text", (1, 25, -1)), (texts, "marked_text", (1, 25, -1)), (texts, "shortest_text", SMALL, SEVEN),
    (sums, "sum_of", SMALL, "up", [SEVEN, TINY, TOP]), (sums, "dot_of", SMALL, "up", [(SEVEN, TINY), (TINY, TINY)]),
    (sums, "exact_sum", SMALL, [SEVEN, TINY]), (parted, "parted_sum", SMALL, SEVEN, TINY),
    (parted, "parted_product", SMALL, SEVEN, TINY), (parted, "parted_sum_of", SMALL, [TINY, SEVEN, TINY]),
    (parted, "is_parted_sum", SMALL, [TINY, SEVEN], [SEVEN, TINY]),
    (programs, "needed_steps", TWO), (programs, "shortened", TWO), (programs, "put_in", TWO, (ONE, ONE)),
    (programs, "show_program", TWO), (programs, "read_program", "inputs 1\ninput 0"), (programs, "read_program", {"a": []}),
)


def result_of(module, name, arguments):
    """What a call returns, or the error that it raises, as a text."""
    try:
        told = getattr(module, name)(*arguments)
    except NearError as error:
        return None, f"{error.__class__.__name__} {picture(list(vars(error).values()))}"
    return told, picture(told)


class Calls(unittest.TestCase):
    def test_arguments_stay_and_results_are_equal(self):
        firsts = []
        for module, name, *arguments in CALLS:
            with self.subTest(name=name):
                before = picture(arguments)
                told, shown = result_of(module, name, arguments)
                self.assertEqual(picture(arguments), before)
                firsts.append(shown)
                if isinstance(told, list):
                    told.reverse()
                    told.append(None)
        # Later calls, of equal arguments that are no longer the same objects, tell the same.
        for (module, name, *arguments), shown in zip(CALLS, firsts):
            with self.subTest(name=name):
                self.assertEqual(result_of(module, name, copy.deepcopy(arguments))[1], shown)

    def test_each_function_is_among_them(self):
        for module in (formats, turning, words, reader, shortest, shower, texts, sums, parted, programs, truth, running, spans, spanops,
                       enclosed, parting, staying, errorpapers, judging, bounding):
            called = [name for one, name, *_ in CALLS if one is module]
            own = [name for name, thing in vars(module).items()
                   if callable(thing) and thing.__module__ == module.__name__ and not name.startswith("_")]
            helpers = ("integer_text", "integer_in", "places_many", "parted_sign", "counted_sum_of", "operated", "has_numbers", "low_end",
                       "high_end", "halves", "span_needed", "least_error")
            self.assertEqual(set(own) - set(helpers), set(called))

    def test_benches(self):
        lines = ["set a 7", "set b 0.25", "by c a b", "flags", "back", "names", "show a", "less a b", "add q a zz", "own b"]
        told = []
        for _ in range(2):
            bench, answers = Bench(SMALL, "up"), []
            for line in lines:
                try:
                    answers.append(bench.execute(line))
                except NearError as error:
                    answers.append(error.line)
            bench.state()[1].clear()
            told.append(picture([answers, bench.state()]))
            for answer in answers:
                answer.clear() if isinstance(answer, list) else None
        self.assertEqual(told[0], told[1])

    def test_heaps(self):
        heap, other = Heap(SMALL), Heap(SMALL)
        for one in (heap, other):
            one.put(SEVEN)
            one.put(TINY)
        for _ in range(3):
            for one in (heap, other):
                self.assertEqual([one.told("up"), one.many(), one.members()], [(("num", 1, 6, 1), ("inexact",)), 2, [SEVEN, TINY]])
            heap.members().clear()
            heap.twin().take_out(TINY)


if __name__ == "__main__":
    unittest.main()
