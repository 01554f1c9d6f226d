"""[43], [44]: papers that a result stays within a span, or leaves it, and the boxes that are left."""

import copy
import unittest
from random import Random

from drawn import BOTTOM, NO_NUMBERS, PLAIN_WORDS, TOP, WHOLE, drawn_program, drawn_span
from nearestheld.enclosed import result_within
from nearestheld.forms import is_box
from nearestheld.parting import parted_box, parted_result, widest
from nearestheld.spans import holds, lies_in, meet
from nearestheld.staying import boxes_left, is_leave_paper, is_stay_paper, leave_paper, stay_paper
from nearestheld.truth import true_worth
from reference import SMALL_FORMATS, pair_of, worth_of
from test_enclosed import drawn_inputs
from things import check_any_value, picture, variants

SMALL, BITS = (10, 2, -3, 3), (2, 3, -2, 1)
ZERO, HALF, ONE, TWO, THREE = ("num", 0, 0, -3), ("num", 0, 50, -2), ("num", 0, 10, -1), ("num", 0, 20, -1), ("num", 0, 30, -1)
HILL = (1, (("input", 0), ("told", (2, 1)), ("take", 1, 0), ("times", 0, 2)))
START, NEAR, HIGH = (("span", ONE, TWO),), ("span", ZERO, ("num", 0, 12, -1)), ("span", HALF, ONE)
SAME, PLUS = (1, (("input", 0),)), (2, (("input", 0), ("input", 1), ("add", 0, 1)))


def stays(program, form, box, span):
    told, truth = result_within(program, form, box)
    return truth and lies_in(form, told, span)


def expected_is_stay(program, form, box, span, thing):
    """Whether thing is a STAY PAPER, in the words of the document."""
    if thing.__class__ is not tuple or not thing or thing[0].__class__ is not str:
        return False
    if thing == ("in",):
        return stays(program, form, box, span)
    if len(thing) != 4 or thing[0] != "part" or thing[1].__class__ is not int or not 0 <= thing[1] < len(box):
        return False
    parts = parted_box(form, box, thing[1])
    return parts is not None and all([expected_is_stay(program, form, part, span, one) for part, one in zip(parts, thing[2:])])


def expected_stay(program, form, box, span, deep):
    if stays(program, form, box, span):
        return ("in",)
    index = widest(form, box)
    if deep == 0 or index is None:
        return None
    papers = [expected_stay(program, form, part, span, deep - 1) for part in parted_box(form, box, index)]
    return None if None in papers else ("part", index) + tuple(papers)


def leaves(program, form, box, span, inputs):
    exact = true_worth(program, inputs)
    return exact is None or not holds(form, span, exact)


def expected_leave(program, form, box, span, deep):
    for end in (1, 2):
        if all([one != NO_NUMBERS and one[end][0] == "num" for one in box]):
            inputs = tuple([pair_of(worth_of(form, one[end])) for one in box])
            if leaves(program, form, box, span, inputs):
                return ("point", inputs)
    index = widest(form, box)
    if deep > 0 and index is not None:
        for part in parted_box(form, box, index):
            found = expected_leave(program, form, part, span, deep - 1)
            if found is not None:
                return found
    return None


def expected_left(program, form, box, span, deep):
    if meet(form, result_within(program, form, box)[0], span) == NO_NUMBERS:
        return []
    index = widest(form, box)
    if deep == 0 or index is None:
        return [box]
    first, second = parted_box(form, box, index)
    return expected_left(program, form, first, span, deep - 1) + expected_left(program, form, second, span, deep - 1)


def drawn_cases(seed, many):
    """Programs, small FORMATS, BOXES, and SPANS that the RESULT may stay in."""
    random = Random(seed)
    for _ in range(many):
        form = random.choice(SMALL_FORMATS[:6] + (BITS,))
        program = drawn_program(random, PLAIN_WORDS, random.randint(0, 3), random.randint(3, 10))
        box = tuple([drawn_span(random, form) for _ in range(program[0])])
        told = [result_within(program, form, box)[0]] + [parted_result(program, form, box, deep)[0] for deep in (1, 2, 3)]
        span = random.choice(told + [drawn_span(random, form), WHOLE, NO_NUMBERS])
        if random.random() < 0.3 and span[0] == "span":
            span = random.choice([("span", BOTTOM, span[2]), ("span", span[1], TOP)])
        yield random, program, form, box, span


class Stay(unittest.TestCase):
    def test_drawn_ones(self):
        seen = {}
        for random, program, form, box, span in drawn_cases(43, 300):
            before = picture([program, box, span])
            for deep in (0, 1, 3, 6) if random.random() < 0.15 else (0, 1, 2):
                told = stay_paper(program, form, box, span, deep)
                self.assertEqual(told, expected_stay(program, form, box, span, deep))
                if told is not None:
                    self.assertIs(is_stay_paper(program, form, box, span, told), True)
                    self.assertIs(is_stay_paper(program, form, box, span, copy.deepcopy(told)), True)
                seen[None if told is None else told[0]] = seen.get(None if told is None else told[0], 0) + 1
            self.assertEqual(picture([program, box, span]), before)
        self.assertTrue(min(seen[None], seen["in"], seen["part"]) > 5, seen)

    def test_what_a_paper_says_is_so(self):
        seen = 0
        for random, program, form, box, span in drawn_cases(44, 300):
            if NO_NUMBERS in box or stay_paper(program, form, box, span, 3) is None:
                continue
            for _ in range(10):
                exact = true_worth(program, drawn_inputs(random, form, box))
                self.assertTrue(exact is not None and holds(form, span, exact))
                seen += 1
        self.assertGreater(seen, 300)

    def test_known_ones(self):
        paper = ("part", 0, ("part", 0, ("in",), ("in",)), ("in",))
        for deep in range(7):
            self.assertEqual(stay_paper(HILL, SMALL, START, NEAR, deep), paper if deep >= 2 else None)
            self.assertEqual(stay_paper(HILL, SMALL, START, ("span", ZERO, TWO), deep), ("in",))
            self.assertIsNone(stay_paper(HILL, SMALL, START, HIGH, deep))
        # A SPAN of no numbers as an input, and no input at all.
        self.assertEqual(stay_paper(SAME, SMALL, (NO_NUMBERS,), NO_NUMBERS, 0), ("in",))
        third = (0, (("told", (1, 3)),))
        self.assertEqual(stay_paper(third, SMALL, (), ("span", ZERO, ONE), 6), ("in",))
        self.assertIsNone(stay_paper(third, SMALL, (), ("span", HALF, ONE), 6))

    def test_the_truth_has_to_be_told(self):
        by = (1, (("input", 0), ("told", (1, 1)), ("by", 1, 0)))
        for deep in (0, 3):
            self.assertIsNone(stay_paper(by, SMALL, (("span", ZERO, ONE),), WHOLE, deep))
        self.assertIs(is_stay_paper(by, SMALL, (("span", ZERO, ONE),), WHOLE, ("in",)), False)
        self.assertIs(is_stay_paper(by, SMALL, (("span", ONE, TWO),), WHOLE, ("in",)), True)

    def test_any_value(self):
        paper = stay_paper(HILL, SMALL, START, NEAR, 2)
        plus_box, plus_span = (("span", ONE, TWO), ("span", ONE, THREE)), ("span", TWO, ("num", 0, 50, -1))
        plus_paper = ("part", 0, ("part", 1, ("in",), ("in",)), ("part", 0, ("in",), ("part", 1, ("in",), ("in",))))
        self.assertIs(is_stay_paper(PLUS, SMALL, plus_box, plus_span, plus_paper), True)
        for program, box, span, one in ((HILL, START, NEAR, paper), (PLUS, plus_box, plus_span, plus_paper), (HILL, START, WHOLE, ("in",))):
            check_any_value(self, lambda thing: is_stay_paper(program, SMALL, box, span, thing), [one] + variants(one))
            for thing in variants(one):
                self.assertIs(is_stay_paper(program, SMALL, box, span, thing), expected_is_stay(program, SMALL, box, span, thing), thing)

    def test_papers_that_are_none(self):
        point_box = (("span", ONE, TWO), ("span", ONE, ONE), NO_NUMBERS)
        three = (3, (("input", 0), ("input", 1), ("input", 2), ("add", 0, 1)))
        both = (("in",), ("in",))
        for index, told in ((0, True), (1, False), (2, False), (3, False), (-1, False), (-3, False), (True, False), (False, False), ("0", False), (None, False), (0.0, False)):
            self.assertIs(is_stay_paper(three, SMALL, point_box, WHOLE, ("part", index) + both), told)
        for thing in (["in"], ("in", 0), "in", ("In",), ("part", 0) + both[:1], ("part", 0) + both + both[:1], ["part", 0, ("in",), ("in",)],
                      ("part", 0, ["in"], ("in",)), ("part", 0, ("in",), None), ("part", 0, ("in",), ("out",)), ("out",), (), ("part",), ("in",) * 4):
            self.assertIs(is_stay_paper(three, SMALL, point_box, WHOLE, thing), False)
        self.assertIs(is_stay_paper((0, (("told", (1, 1)),)), SMALL, (), WHOLE, ("part", 0) + both), False)

    def test_deep_papers(self):
        start = (("span", ZERO, TOP),)
        paper, box = ("in",), start
        while box is not None:
            self.assertIs(is_stay_paper(SAME, SMALL, start, WHOLE, paper), True)
            paper = ("part", 0, paper, ("in",))
            parts = parted_box(SMALL, box, 0)
            box = parts if parts is None else parts[0]
        # Behind so many parts the first one has no middle.
        self.assertIs(is_stay_paper(SAME, SMALL, start, WHOLE, paper), False)


class Leave(unittest.TestCase):
    def test_drawn_ones(self):
        seen = {}
        for random, program, form, box, span in drawn_cases(45, 300):
            for deep in (0, 1, 3):
                told = leave_paper(program, form, box, span, deep)
                self.assertEqual(told, expected_leave(program, form, box, span, deep))
                if told is not None:
                    self.assertIs(is_leave_paper(program, form, box, span, told), True)
                    self.assertIsNone(stay_paper(program, form, box, span, 3))
                seen[told is None] = seen.get(told is None, 0) + 1
        self.assertTrue(min(seen.values()) > 50, seen)

    def test_never_both(self):
        for random, program, form, box, span in drawn_cases(46, 200):
            if stay_paper(program, form, box, span, 2) is not None:
                self.assertIsNone(leave_paper(program, form, box, span, 4))
                if NO_NUMBERS not in box:
                    for _ in range(5):
                        self.assertIs(is_leave_paper(program, form, box, span, ("point", drawn_inputs(random, form, box))), False)

    def test_points_within(self):
        for random, program, form, box, span in drawn_cases(47, 200):
            if NO_NUMBERS not in box:
                for _ in range(5):
                    inputs = drawn_inputs(random, form, box)
                    self.assertIs(is_leave_paper(program, form, box, span, ("point", inputs)), leaves(program, form, box, span, inputs))

    def test_known_ones(self):
        for deep in range(7):
            self.assertEqual(leave_paper(HILL, SMALL, START, HIGH, deep), ("point", ((2, 1),)))
            self.assertIsNone(leave_paper(HILL, SMALL, START, ("span", ZERO, ONE), deep))
        low, high, inner = ("point", ((1, 1),)), ("point", ((2, 1),)), ("point", ((3, 2),))
        for program, span, deep, told in (
            # Low ends are ahead of high ends, these ahead of the HALVES.
            (SAME, NO_NUMBERS, 0, low), (SAME, ("span", ONE, ONE), 3, high), (SAME, ("span", TWO, TWO), 3, low), (SAME, ("span", ONE, TWO), 3, None),
            # A product that is 0 at both ends.
            ((1, (("input", 0), ("told", (1, 1)), ("told", (2, 1)), ("take", 0, 1), ("take", 2, 0), ("times", 3, 4))), ("span", ZERO, ZERO), 0, None),
            ((1, (("input", 0), ("told", (1, 1)), ("told", (2, 1)), ("take", 0, 1), ("take", 2, 0), ("times", 3, 4))), ("span", ZERO, ZERO), 1, inner),
        ):
            self.assertEqual(leave_paper(program, SMALL, START, span, deep), told)
        # Of the HALVES the first one is ahead, though only the second one's end is at hand at once.
        peak = (1, (("input", 0), ("told", (5, 4)), ("take", 0, 1), ("size", 2), ("told", (7, 4)), ("take", 0, 4), ("size", 5), ("least", 3, 6)))
        self.assertEqual(leave_paper(peak, SMALL, START, ("span", ("num", 0, 10, -3), TWO), 0), None)
        self.assertEqual(leave_paper(peak, SMALL, START, ("span", ("num", 0, 60, -3), TWO), 2), ("point", ((6, 5),)))

    def test_ends_that_are_infs(self):
        for box, span, deep, told in (
            ((("span", BOTTOM, ONE),), NO_NUMBERS, 0, ("point", ((1, 1),))), ((("span", ONE, TOP),), NO_NUMBERS, 0, ("point", ((1, 1),))),
            ((WHOLE,), NO_NUMBERS, 0, None), ((WHOLE,), NO_NUMBERS, 1, ("point", ((0, 1),))), ((NO_NUMBERS,), NO_NUMBERS, 3, None),
            ((("span", ("num", 0, 99, 3), TOP),), ("span", ("num", 0, 99, 3), ("num", 0, 99, 3)), 6, None),
        ):
            self.assertEqual(leave_paper(SAME, SMALL, box, span, deep), told)
        for box in ((("span", BOTTOM, ONE), ("span", ONE, TOP)), (("span", ONE, TWO), WHOLE)):
            self.assertIsNone(leave_paper(PLUS, SMALL, box, NO_NUMBERS, 0))

    def test_no_worth(self):
        by = (1, (("input", 0), ("told", (1, 1)), ("by", 1, 0)))
        self.assertEqual(leave_paper(by, SMALL, (("span", ZERO, ONE),), WHOLE, 0), ("point", ((0, 1),)))
        self.assertEqual(leave_paper(by, SMALL, (("span", ("num", 1, 10, -1), ONE),), WHOLE, 1), ("point", ((0, 1),)))
        self.assertIsNone(leave_paper(by, SMALL, (("span", ("num", 1, 10, -1), ONE),), WHOLE, 0))
        nothing = (0, (("told", (0, 1)), ("by", 0, 0)))
        self.assertEqual(leave_paper(nothing, SMALL, (), WHOLE, 0), ("point", ()))
        self.assertIs(is_leave_paper(nothing, SMALL, (), WHOLE, ("point", ())), True)

    def test_any_value(self):
        box = (("span", ONE, TWO), ("span", ZERO, THREE))
        paper = ("point", ((3, 2), (2, 1)))
        span = ("span", ZERO, THREE)
        check_any_value(self, lambda thing: is_leave_paper(PLUS, SMALL, box, span, thing), [paper] + variants(paper))
        for inputs, told in (
            (((2, 1), (3, 1)), True), (((1, 1), (2, 1)), False), (((3, 2), (3, 1)), True), (((19, 10), (2999, 1000)), True), (((1, 1), (2001, 1000)), True),
            (((4, 2), (3, 1)), False), (((2, 1), (6, 2)), False), (((-2, -1), (3, 1)), False), (((2, 1), (3001, 1000)), False), (((999, 1000), (3, 1)), False),
            (((2, 1),), False), (((2, 1), (3, 1), (0, 1)), False), ((), False), ([(2, 1), (3, 1)], False), (((2, 1), [3, 1]), False), (((2, True), (3, 1)), False),
            (((2, 1), 3), False), (((2, 1), None), False), (((2.0, 1), (3, 1)), False), (((10 ** 2099 + 1, 10 ** 2099), (2, 1)), True),
        ):
            self.assertIs(is_leave_paper(PLUS, SMALL, box, span, ("point", inputs)), told, inputs)
        good = ((2, 1), (3, 1))
        for thing in (["point", good], ("point",), ("point", good, 0), ("in", good), (good,), good, ("point", "xy"), ("point", None), ("point", {0: 1})):
            self.assertIs(is_leave_paper(PLUS, SMALL, box, span, thing), False)
        self.assertIs(is_leave_paper(SAME, SMALL, (NO_NUMBERS,), span, ("point", ((1, 1),))), False)


class Left(unittest.TestCase):
    def test_drawn_ones(self):
        seen = {}
        for random, program, form, box, span in drawn_cases(48, 300):
            before = picture([program, box, span])
            for deep in (0, 1, 4):
                told = boxes_left(program, form, box, span, deep)
                self.assertEqual(told, expected_left(program, form, box, span, deep))
                self.assertTrue(all([is_box(form, len(box), left) for left in told]))
                seen[min(len(told), 3)] = True
                if NO_NUMBERS not in box:
                    self.check_inputs(random, program, form, box, span, told)
                told.append(None)
                self.assertEqual(boxes_left(program, form, box, span, deep), told[:-1])
            self.assertEqual(picture([program, box, span]), before)
        self.assertEqual(set(seen), {0, 1, 2, 3})

    def check_inputs(self, random, program, form, box, span, told):
        for _ in range(4):
            inputs = drawn_inputs(random, form, box)
            exact = true_worth(program, inputs)
            if exact is not None and holds(form, span, exact):
                self.assertTrue(any([all([holds(form, one, x) for one, x in zip(left, inputs)]) for left in told]))

    def test_known_ones(self):
        high = ("span", ("num", 0, 90, -2), ONE)
        twelve, fifteen = ("num", 0, 12, -1), ("num", 0, 15, -1)
        self.assertEqual(boxes_left(HILL, SMALL, START, high, 0), [START])
        self.assertEqual(boxes_left(HILL, SMALL, START, high, 1), [(("span", ONE, fifteen),), (("span", fifteen, TWO),)])
        self.assertEqual(boxes_left(HILL, SMALL, START, high, 2), [(("span", ONE, twelve),), (("span", twelve, fifteen),)])
        self.assertEqual(boxes_left(HILL, SMALL, START, ("span", ("num", 0, 50, -1), TOP), 3), [])
        self.assertEqual(boxes_left(HILL, SMALL, START, NO_NUMBERS, 3), [])
        self.assertEqual(boxes_left(SAME, SMALL, (NO_NUMBERS,), WHOLE, 3), [])
        self.assertEqual(boxes_left((0, (("told", (1, 1)),)), SMALL, (), WHOLE, 3), [()])
        self.assertEqual(boxes_left(SAME, SMALL, (("span", ONE, ONE),), WHOLE, 6), [(("span", ONE, ONE),)])

    def test_one_point_in_common(self):
        self.assertEqual(boxes_left(SAME, SMALL, (("span", ONE, THREE),), ("span", THREE, TOP), 0), [(("span", ONE, THREE),)])
        self.assertEqual(boxes_left(SAME, SMALL, (("span", ONE, THREE),), ("span", TWO, TWO), 1), [(("span", ONE, TWO),), (("span", TWO, THREE),)])
        self.assertEqual(boxes_left(SAME, SMALL, (("span", ONE, THREE),), ("span", BOTTOM, ONE), 1), [(("span", ONE, TWO),)])
        self.assertEqual(boxes_left(SAME, SMALL, (("span", ONE, THREE),), ("span", BOTTOM, ZERO), 1), [])

    def test_drawn_inputs_are_within(self):
        random = Random(49)
        for _ in range(200):
            span = drawn_span(random, BITS)
            if span != NO_NUMBERS:
                self.assertIs(holds(BITS, span, drawn_inputs(random, BITS, (span,))[0]), True)


if __name__ == "__main__":
    unittest.main()
