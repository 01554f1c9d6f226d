"""[5] to [10] over the whole package: drawn formats, ways, programs and boxes, each function against what another one tells."""

import unittest
from fractions import Fraction
from random import Random

from drawn import NO_NUMBERS, PARTS, PLAIN_WORDS, WHOLE, drawn_fraction, drawn_program
from nearestheld.bench import Bench
from nearestheld.bounding import error_bound, error_paper
from nearestheld.enclosed import enclosed, result_within
from nearestheld.errors import CannotTell
from nearestheld.formats import next_down, next_up, numbers_many, rank_of, steps_between, value_at
from nearestheld.forms import are_flags, is_box, is_format, is_fraction, is_number, is_outcome, is_plain, is_program, is_span, is_value
from nearestheld.fractions import compared, lessened, size_of
from nearestheld.heap import Heap
from nearestheld.judging import bound_of, is_paper
from nearestheld.orders import in_order, less, order_of, same
from nearestheld.parted import parted_product, parted_sum, parted_sum_of
from nearestheld.parting import middle_of, parted_box, parted_result, widest
from nearestheld.programs import read_program, show_program, shortened
from nearestheld.reader import read, read_own, reads_back, show_own
from nearestheld.rounding import above, below, is_rounded, most_error, rounded, rounded_root
from nearestheld.running import error_at, operated, result_of, run
from nearestheld.shortest import is_shortest, shortest
from nearestheld.shower import enough_digits, told_digits
from nearestheld.spanops import span_result
from nearestheld.spans import holds, hull, lies_in, meet, side_of, span_into, span_of
from nearestheld.staying import boxes_left, is_leave_paper, is_stay_paper, leave_paper, stay_paper
from nearestheld.sums import dot_of, exact_sum, sum_of
from nearestheld.texts import shortest_text
from nearestheld.truth import true_bounds, true_worth, true_worths
from nearestheld.turning import is_within, lost_number, turned
from nearestheld.worths import is_finite, is_zero, number_of, opposite, size, worth, zero
from reference import WAYS, pair_of, some_numbers

NAN, TOP, BOTTOM = ("nan",), ("inf", 0), ("inf", 1)
MIRROR = {"up": "down", "down": "up", "even": "even", "away": "away", "zero": "zero"}


def drawn_format(random):
    base, digits = 2 * random.randint(1, 18), random.choice((2, 2, 3, 5, 12, 40))
    low = random.randint(-40, 10)
    return (base, digits, low, low + random.choice((0, 1, 5, 60)))


def drawn_numbers(random, form, many):
    return some_numbers(form, many, random.randrange(10 ** 9))


def drawn_values(random, form, many):
    return [random.choice([NAN, TOP, BOTTOM]) if random.random() < 0.1 else number for number in drawn_numbers(random, form, many)]


def as_end(form, number):
    return zero(form, 0) if is_zero(number) else number


def drawn_box(random, form, many, wide=True):
    """A BOX of SPANS of a FORMAT; without wide ones each goes over few NUMBERS."""
    box = []
    for _ in range(many):
        low, high = [as_end(form, number) for number in in_order(form, drawn_numbers(random, form, 2))]
        if wide:
            box.append(random.choice([("span", low, high)] * 6 + [("span", low, low), ("span", low, TOP), ("span", BOTTOM, high), WHOLE, NO_NUMBERS]))
        else:
            high = value_at(form, min(rank_of(form, low) + random.randint(0, 40), rank_of(form, TOP) - 1))
            box.append(("span", low, high))
    return tuple(box)


def drawn_within(random, form, box):
    """NUMBERS WITHIN a BOX of SPANS that HOLD some."""
    found = []
    for _, low, high in box:
        most = rank_of(form, TOP) - 1
        ranks = max(rank_of(form, low), -most), min(rank_of(form, high), most)
        found.append(value_at(form, random.choice([ranks[0], ranks[1], random.randint(*ranks)])))
    return tuple(found)


def worths_of(form, numbers):
    return tuple([worth(form, number) for number in numbers])


class Rounding(unittest.TestCase):
    def test_neighbours_and_ways(self):
        random = Random(5)
        for _ in range(300):
            form = drawn_format(random)
            one, other = drawn_numbers(random, form, 2)
            part = Fraction(random.randint(0, 12), 12)
            x = pair_of(Fraction(*worth(form, one)) * part + Fraction(*worth(form, other)) * (1 - part))
            low, high = span_of(form, x, x)[1:]
            told = {way: rounded(form, way, x, 0) for way in WAYS}
            for way in WAYS:
                value, flags = told[way]
                self.assertIs(is_outcome(form, told[way]), True)
                self.assertIs(is_rounded(form, way, x, 0, told[way]), True)
                self.assertTrue(as_end(form, value) in (low, high))
                self.assertEqual(rounded(form, MIRROR[way], (-x[0], x[1]), 1), (opposite(value) if x[0] else zero(form, 1), flags))
                self.assertEqual("inexact" in flags, number_of(form, x) is None)
                if most_error(form, way, size_of(x)) is not None:
                    self.assertLessEqual(compared(size_of(lessened(worth(form, value), x)), most_error(form, way, size_of(x))), 0)
            self.assertEqual([as_end(form, below(form, x)), as_end(form, above(form, x))], [low, high])
            self.assertEqual([told["down"][0], as_end(form, told["up"][0])], [low, high])

    def test_it_never_falls_and_leaves_numbers_as_they_are(self):
        random = Random(6)
        for _ in range(150):
            form = drawn_format(random)
            numbers = drawn_numbers(random, form, 8)
            fractions = sorted([Fraction(*x) * Fraction(random.randint(90, 110), 100) for x in worths_of(form, numbers)])
            for way in WAYS:
                ranks = [rank_of(form, rounded(form, way, pair_of(x), 0)[0]) for x in fractions]
                self.assertEqual(ranks, sorted(ranks))
                for number in numbers:
                    self.assertEqual(rounded(form, way, worth(form, number), number[1]), (number, ()))
                roots = [rank_of(form, rounded_root(form, way, pair_of(x))[0]) for x in fractions if x >= 0]
                self.assertEqual(roots, sorted(roots))
                for x in fractions:
                    # A root that is a NUMBER is told without FLAGS; of all others "down" and "up" are the neighbours.
                    number = rounded(form, "down", pair_of(abs(x)), 0)[0]
                    square = pair_of(Fraction(*worth(form, number)) ** 2)
                    self.assertEqual(rounded_root(form, way, square), (number, ()))

    def test_operations_on_numbers_are_rounded_once(self):
        random = Random(7)
        for _ in range(300):
            form, way = drawn_format(random), random.choice(WAYS)
            values = drawn_numbers(random, form, 3)
            for word, many in PARTS.items():
                if word == "if":
                    continue
                step = (3, (("input", 0), ("input", 1), ("input", 2), (word,) + tuple(range(many))))
                outcome = operated(form, way, word, values[:many])
                bounds = true_bounds(step, worths_of(form, values), 60)
                if bounds is None:
                    self.assertTrue(outcome[0][0] in ("nan", "inf") or word == "root" and is_zero(values[0]))
                elif bounds[0] == bounds[1] and bounds[0][0] != 0:
                    self.assertEqual(outcome, rounded(form, way, bounds[0], 0))
                elif bounds[0] == bounds[1]:
                    self.assertTrue(is_zero(outcome[0]) and outcome[1] == ())
                else:
                    self.assertEqual(outcome, rounded_root(form, way, worth(form, values[0])))


class TextsAndSums(unittest.TestCase):
    def test_texts(self):
        random = Random(8)
        for _ in range(150):
            form = drawn_format(random)
            for value in drawn_values(random, form, 4):
                self.assertEqual(read(form, "even", shortest_text(form, value))[0], value)
                if is_finite(value):
                    decimal = shortest(form, value)
                    self.assertEqual([is_shortest(form, value, decimal), reads_back(form, decimal, value), read_own(form, show_own(form, value))], [True, True, value])
                    self.assertIs(reads_back(form, told_digits(form, value, enough_digits(form), "even")[0], value), True)

    def test_sums(self):
        random = Random(9)
        for _ in range(200):
            form, way = drawn_format(random), random.choice(WAYS)
            values = drawn_values(random, form, random.randint(1, 12))
            other = random.sample(values, len(values))
            self.assertEqual(sum_of(form, way, values), sum_of(form, way, other))
            heap = Heap(form)
            for value in other:
                heap.put(value)
            self.assertEqual([heap.told(way), heap.members()], [sum_of(form, way, values), in_order(form, values)])
            pairs = list(zip(values, other))
            self.assertEqual(dot_of(form, way, pairs), dot_of(form, way, pairs[::-1]))
            for (x, y), z in zip(pairs, other[::-1]):
                self.assertEqual(sum_of(form, way, [x, y]), operated(form, way, "add", [x, y]))
                self.assertEqual(sum_of(form, way, [x, y if y == NAN else opposite(y)]), operated(form, way, "take", [x, y]))
                self.assertEqual(dot_of(form, way, [(x, y)]), operated(form, way, "times", [x, y]))
                one = number_of(form, (1, 1))
                if one is not None:
                    self.assertEqual(dot_of(form, way, [(x, y), (z, one)]), operated(form, way, "fused", [x, y, z]))

    def test_what_sums_lack(self):
        random = Random(10)
        for _ in range(200):
            form = drawn_format(random)
            x, y, *rest = drawn_numbers(random, form, 6)
            told = parted_sum(form, x, y)
            self.assertEqual(told is None, not is_finite(sum_of(form, "even", [x, y])[0]))
            if told is not None:
                self.assertEqual(exact_sum(form, told), exact_sum(form, [x, y]))
                self.assertTrue(is_number(form, told[0]) and is_number(form, told[1]))
                for way in ("even", "away"):
                    near = sum_of(form, way, [x, y])[0]
                    self.assertTrue(not is_finite(near) or number_of(form, lessened(exact_sum(form, [x, y]), worth(form, near))) is not None)
            product = parted_product(form, x, y)
            if product is not None and product[1] is not None:
                self.assertEqual(exact_sum(form, product), pair_of(Fraction(*worth(form, x)) * Fraction(*worth(form, y))))
            parts = parted_sum_of(form, [x, y] + rest)
            if parts is not None:
                self.assertEqual(exact_sum(form, parts), exact_sum(form, [x, y] + rest))


class Formats(unittest.TestCase):
    def test_ranks_and_orders(self):
        random = Random(11)
        for _ in range(200):
            form = drawn_format(random)
            x, y = [value for value in drawn_values(random, form, 30) if value != NAN][:2]
            self.assertEqual([less(form, x, y), same(form, x, y)], [rank_of(form, x) < rank_of(form, y), rank_of(form, x) == rank_of(form, y)])
            self.assertEqual(steps_between(form, x, y), rank_of(form, y) - rank_of(form, x))
            if x not in (TOP, BOTTOM):
                self.assertEqual([rank_of(form, next_up(form, x)), rank_of(form, next_down(form, x))], [rank_of(form, x) + 1, rank_of(form, x) - 1])
                self.assertEqual(value_at(form, rank_of(form, x)), as_end(form, x))
            self.assertEqual(2 * rank_of(form, TOP), numbers_many(form))

    def test_one_format_in_another(self):
        random = Random(12)
        seen = {}
        for _ in range(300):
            form = drawn_format(random)
            other = (form[0] * random.choice((1, 1, 1, 2)) % 38 or 2, form[1] + random.randint(0, 40), form[2] - random.randint(-1, 40), form[3] + random.randint(-1, 40))
            if not is_format(other):
                continue
            lost = lost_number(form, other)
            seen[lost is None] = True
            self.assertIs(is_within(form, other), lost is None)
            if lost is not None:
                self.assertIsNone(number_of(other, worth(form, lost)))
            for number in drawn_numbers(random, form, 6):
                there, flags = turned(form, "up", other, number)
                back = turned(other, "down", form, there)
                if lost is None:
                    self.assertEqual([flags, back], [(), (number, ())])
                    self.assertEqual(order_of(form, number, other, there), 0)
                span = span_into(form, other, ("span", as_end(form, number), as_end(form, number)))
                self.assertEqual(span, span_of(other, worth(form, number), worth(form, number)))
        self.assertEqual(len(seen), 2)


class Spans(unittest.TestCase):
    def test_spans_of_one_operation(self):
        random = Random(13)
        for _ in range(400):
            form = drawn_format(random)
            word = random.choice([word for word in PARTS if word != "if"])
            spans = drawn_box(random, form, PARTS[word])
            told, truth = span_result(form, word, spans)
            self.assertIs(is_span(form, told), True)
            if NO_NUMBERS in spans:
                self.assertEqual((told, truth), (NO_NUMBERS, True))
                continue
            program = (PARTS[word], tuple([("input", at) for at in range(PARTS[word])]) + ((word,) + tuple(range(PARTS[word])),))
            self.assertEqual(result_within(program, form, spans), (told, truth))
            for _ in range(4):
                values = drawn_within(random, form, spans)
                bounds = true_bounds(program, worths_of(form, values), 30)
                self.assertTrue(bounds is not None or not truth)
                if bounds is not None:
                    self.assertFalse(meet(form, told, span_of(form, bounds[0], bounds[1])) == NO_NUMBERS)
                    for way in WAYS:
                        value = result_of(program, form, way, values)
                        if is_finite(value):
                            self.assertIs(holds(form, told, worth(form, value)), True)

    def test_programs_over_boxes(self):
        random = Random(14)
        for _ in range(200):
            form = drawn_format(random)
            program = drawn_program(random, PLAIN_WORDS, random.randint(1, 3), random.randint(4, 14))
            box = drawn_box(random, form, program[0])
            self.assertTrue(is_plain(program) and is_box(form, program[0], box))
            rows = enclosed(program, form, box)
            if NO_NUMBERS not in box:
                values = drawn_within(random, form, box)
                worths = true_worths(program, worths_of(form, values))
                for (span, truth), x in zip(rows, worths):
                    self.assertTrue(not truth if x is None else holds(form, span, x))
                self.check_sides(form, program, rows, worths)
            ahead = rows[-1]
            for deep in (1, 2, 3):
                told = parted_result(program, form, box, deep)
                self.assertTrue(lies_in(form, told[0], ahead[0]) and (told[1] or not ahead[1]))
                ahead = told
            if NO_NUMBERS not in box:
                self.assertTrue(not ahead[1] if worths[-1] is None else holds(form, ahead[0], worths[-1]))
            self.assertEqual(enclosed(shortened(program), form, box)[-1][0], rows[-1][0])

    def check_sides(self, form, program, rows, worths):
        for step in program[1]:
            if step[0] == "if":
                side = side_of(form, rows[step[1]][0], rows[step[2]][0])
                x, y = worths[step[1]], worths[step[2]]
                if x is not None and y is not None:
                    self.assertTrue(side != "none")
                    self.assertTrue(side == "open" or side == ("less" if compared(x, y) < 0 else "not"))

    def test_stay_papers_leave_papers_and_what_is_left(self):
        random = Random(15)
        seen = {}
        for _ in range(250):
            form = drawn_format(random)
            program = drawn_program(random, PLAIN_WORDS, random.randint(1, 2), random.randint(3, 9))
            box = drawn_box(random, form, program[0], random.random() < 0.5)
            span = random.choice([parted_result(program, form, box, deep)[0] for deep in range(3)] + list(drawn_box(random, form, 1)))
            stay, leave = stay_paper(program, form, box, span, 3), leave_paper(program, form, box, span, 3)
            left = boxes_left(program, form, box, span, 3)
            seen[(stay is None, leave is None, left == [])] = True
            self.assertTrue(stay is None or leave is None)
            self.assertTrue(stay is None or is_stay_paper(program, form, box, span, stay))
            self.assertTrue(leave is None or is_leave_paper(program, form, box, span, leave))
            told, truth = parted_result(program, form, box, 3)
            self.assertTrue(stay is None or truth and lies_in(form, told, span))
            self.assertTrue(left != [] or meet(form, told, span) == NO_NUMBERS or not lies_in(form, told, span))
            if NO_NUMBERS not in box:
                inputs = worths_of(form, drawn_within(random, form, box))
                exact = true_worth(program, inputs)
                is_held = exact is not None and holds(form, span, exact)
                self.assertIs(is_leave_paper(program, form, box, span, ("point", inputs)), not is_held)
                self.assertTrue(is_held or stay is None)
                self.assertTrue(not is_held or any([all([holds(form, one, x) for one, x in zip(part, inputs)]) for part in left]))
        self.assertGreaterEqual(len(seen), 5)

    def test_parts_of_boxes(self):
        random = Random(16)
        for _ in range(200):
            form = drawn_format(random)
            box = drawn_box(random, form, random.randint(1, 4))
            index = widest(form, box)
            self.assertEqual(index is None, all([middle_of(form, one) is None for one in box if one != NO_NUMBERS]))
            if index is not None:
                one, other = parted_box(form, box, index)
                middle = middle_of(form, box[index])
                self.assertEqual(meet(form, one[index], other[index]), ("span", middle, middle))
                self.assertEqual(hull(form, one[index], other[index]), box[index])
                self.assertTrue(abs(steps_between(form, box[index][1], middle) - steps_between(form, middle, box[index][2])) <= 1)


class Errors(unittest.TestCase):
    def test_error_papers(self):
        random = Random(17)
        seen = 0
        for _ in range(700):
            form, way = drawn_format(random), random.choice(WAYS)
            program = drawn_program(random, PLAIN_WORDS, random.randint(1, 3), random.randint(3, 10))
            box = drawn_box(random, form, program[0], False)
            try:
                paper = error_paper(program, form, way, box)
            except CannotTell as error:
                self.assertIsNone(error_bound(program, form, way, box))
                self.assertTrue(0 <= error.step < len(program[1]))
                continue
            seen += 1
            self.assertIs(is_paper(program, form, way, box, paper), True)
            self.assertEqual(error_bound(program, form, way, box), bound_of(paper))
            rows = enclosed(program, form, box)
            for (span, error), (wide, _) in zip(paper, rows):
                self.assertTrue(is_fraction(error) and lies_in(form, span, wide))
            for _ in range(5):
                values = drawn_within(random, form, box)
                made, flags = run(program, form, way, values)
                self.assertTrue(are_flags(flags) and "by" not in flags and "invalid" not in flags)
                for value, x, (span, error) in zip(made, true_worths(program, worths_of(form, values)), paper):
                    self.assertIs(holds(form, span, x), True)
                    self.assertLessEqual(compared(size_of(lessened(worth(form, value), x)), error), 0)
                self.assertLessEqual(compared(error_at(program, form, way, values), bound_of(paper)), 0)
        self.assertGreater(seen, 120)


class Programs(unittest.TestCase):
    def test_a_bench_tells_what_a_run_tells(self):
        random = Random(18)
        for _ in range(200):
            form, way = drawn_format(random), random.choice(WAYS)
            words = tuple([word for word in PARTS if word != "if"])
            program = drawn_program(random, words, random.randint(1, 3), random.randint(4, 20))
            program = (program[0], tuple([step if step[0] != "told" else ("input", 0) for step in program[1]]))
            values = drawn_values(random, form, program[0])
            bench = Bench(form, "even")
            names = ["s" + chr(ord("a") + at) for at in range(len(program[1]))]
            for at, value in enumerate(values):
                bench.execute(f"set i{chr(ord('a') + at)} {shortest_text(form, value)}")
            bench.execute("lower")
            bench.execute("way " + way)
            for name, step in zip(names, program[1]):
                if step[0] == "input":
                    # The greater one of a VALUE and itself is the VALUE.
                    inner = "i" + chr(ord("a") + step[1])
                    bench.execute(f"greatest {name} {inner} {inner}")
                else:
                    bench.execute(" ".join([step[0], name] + [names[part] for part in step[1:]]))
            made, flags = run(program, form, way, tuple(values))
            told = bench.state()
            self.assertEqual([[told[1][name] for name in names], told[2], told[0]], [made, flags, way])
            for _ in names:
                bench.execute("back")
            self.assertEqual(bench.execute("names"), [" ".join(["i" + chr(ord("a") + at) for at in range(len(values))])])

    def test_programs_as_texts_and_as_they_are(self):
        random = Random(19)
        for _ in range(200):
            program = drawn_program(random, PLAIN_WORDS, random.randint(0, 3), random.randint(3, 14))
            again = read_program(show_program(program))
            self.assertIs(is_program(again), True)
            self.assertEqual(again, program)
            inputs = tuple([drawn_fraction(random) for _ in range(program[0])])
            told = true_worth(program, inputs)
            self.assertEqual(true_worth(shortened(program), inputs), told)
            self.assertEqual(true_bounds(program, inputs, 5), None if told is None else (told, told))
            form, way = drawn_format(random), random.choice(WAYS)
            values = tuple(drawn_values(random, form, program[0]))
            self.assertEqual(result_of(shortened(program), form, way, values), result_of(program, form, way, values))
            self.assertTrue(all([is_value(form, value) for value in run(program, form, way, values)[0]]))

    def test_exact_runs_are_the_truth(self):
        random = Random(20)
        seen = 0
        for _ in range(300):
            program = drawn_program(random, PLAIN_WORDS, 2, random.randint(3, 10))
            form = (2, 120, -200, 200)
            values = tuple([rounded(form, "even", (random.randint(-9, 9), 1), 0)[0] for _ in range(2)])
            made, flags = run(program, form, "zero", values)
            if flags == () and all([is_finite(value) for value in made]):
                seen += 1
                self.assertEqual(worths_of(form, made), tuple(true_worths(program, worths_of(form, values))))
                self.assertEqual(error_at(program, form, "zero", values), (0, 1))
                self.assertEqual([size(value) for value in made], [as_end(form, size(value)) for value in made])
        self.assertGreater(seen, 20)


if __name__ == "__main__":
    unittest.main()
