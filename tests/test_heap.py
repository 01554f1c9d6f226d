"""[32]: the heap."""

import copy
import unittest
from itertools import permutations
from random import Random

from nearestheld.errors import NearError, NotThere, Nothing, Wrong
from nearestheld.forms import is_format, is_value, is_way
from nearestheld.heap import Heap
from nearestheld.orders import in_order
from nearestheld.sums import sum_of
from reference import LARGE_FORMATS, SMALL_FORMATS, WAYS, numbers_of, some_numbers, some_of, values_of
from things import check_wrong, picture, things

NAN, TOP, BOTTOM = ("nan",), ("inf", 0), ("inf", 1)
SMALL, TENS = (2, 3, -2, 1), (10, 2, -2, 0)
GREAT, LESS, LEAST = ("num", 0, 7, 1), ("num", 1, 7, 1), ("num", 0, 1, -2)
PLUS, MINUS = ("num", 0, 0, -2), ("num", 1, 0, -2)
SOME = (GREAT, LESS, LEAST, PLUS, MINUS, TOP, BOTTOM, NAN)


def heap_of(form, values):
    heap = Heap(form)
    for value in values:
        heap.put(value)
    return heap


class Checks(unittest.TestCase):
    def check(self, form, heap, values):
        """Check that a Heap tells just what it should with these VALUES in."""
        self.assertEqual(heap.members(), in_order(form, values))
        self.assertEqual(heap.many(), len(values))
        self.assertEqual([heap.told(way) for way in WAYS], [sum_of(form, way, values) for way in WAYS])
        self.assertIs(heap == heap_of(form, values), True)
        self.assertIs(heap != heap_of(form, values), False)
        self.assertIs(heap == heap_of(form, list(values) + [LEAST if form == SMALL else NAN]), False)

    def check_unchanged_by(self, heap, error, call):
        """Check that a call raises an error and nothing has changed, also not what can be taken back."""
        before, twin = heap.members(), heap.twin()
        with self.assertRaises(error) as caught:
            call()
        self.assertEqual(heap.members(), before)
        self.check_same_past(heap.twin(), twin)
        return caught.exception

    def check_same_past(self, heap, other):
        while True:
            self.assertEqual(heap.members(), other.members())
            try:
                heap.undo()
            except Nothing:
                break
            other.undo()
        with self.assertRaises(Nothing):
            other.undo()


class Calls(Checks):
    def test_at_first_there_are_none(self):
        for form in SMALL_FORMATS + LARGE_FORMATS:
            heap = Heap(form)
            self.check(form, heap, [])
            self.assertEqual(heap.told("down"), (("num", 0, 0, form[2]), ()))
            with self.assertRaises(Nothing):
                heap.undo()

    def test_put(self):
        for form in SMALL_FORMATS + LARGE_FORMATS:
            heap, values = Heap(form), []
            for value in some_of(values_of(form), 25) if form in SMALL_FORMATS else some_numbers(form, 25, 50):
                self.assertIsNone(heap.put(value))
                values.append(value)
                self.check(form, heap, values)

    def test_take_out(self):
        heap = heap_of(SMALL, SOME + SOME[:3])
        values = list(SOME + SOME[:3])
        for value in (TOP, LESS, NAN, MINUS, GREAT, GREAT, BOTTOM):
            self.assertIsNone(heap.take_out(value))
            values.remove(value)
            self.check(SMALL, heap, values)

    def test_what_is_not_there(self):
        heap = heap_of(SMALL, [GREAT, MINUS, TOP])
        for value in (LEAST, PLUS, BOTTOM, NAN, ("num", 1, 7, 1)):
            made = tuple(list(value))
            error = self.check_unchanged_by(heap, NotThere, lambda: heap.take_out(made))
            self.assertIs(error.value, made)
            self.assertIsInstance(error, NearError)
        heap.take_out(GREAT)
        self.check_unchanged_by(heap, NotThere, lambda: heap.take_out(GREAT))
        self.check(SMALL, heap, [MINUS, TOP])

    def test_the_two_zeros_are_two(self):
        heap = heap_of(SMALL, [PLUS, PLUS])
        self.check_unchanged_by(heap, NotThere, lambda: heap.take_out(MINUS))
        heap.put(MINUS)
        self.assertEqual(heap.members(), [MINUS, PLUS, PLUS])
        heap.take_out(PLUS)
        self.assertEqual(heap.members(), [MINUS, PLUS])
        self.assertIs(heap_of(SMALL, [PLUS]) == heap_of(SMALL, [MINUS]), False)

    def test_join(self):
        heap, other = heap_of(SMALL, [GREAT, PLUS]), heap_of(SMALL, [LESS, PLUS, NAN])
        self.assertIsNone(heap.join(other))
        self.check(SMALL, heap, [GREAT, PLUS, LESS, PLUS, NAN])
        self.check(SMALL, other, [LESS, PLUS, NAN])
        other.put(LEAST)
        heap.put(TOP)
        self.check(SMALL, heap, [GREAT, PLUS, LESS, PLUS, NAN, TOP])
        self.check(SMALL, other, [LESS, PLUS, NAN, LEAST])
        heap.join(Heap(SMALL))
        self.check(SMALL, heap, [GREAT, PLUS, LESS, PLUS, NAN, TOP])

    def test_join_with_itself(self):
        heap = heap_of(SMALL, [GREAT, LESS, LEAST, LEAST])
        self.assertIsNone(heap.join(heap))
        self.check(SMALL, heap, [GREAT, LESS, LEAST, LEAST] * 2)
        heap.join(heap)
        self.check(SMALL, heap, [GREAT, LESS, LEAST, LEAST] * 4)
        heap.undo()
        self.check(SMALL, heap, [GREAT, LESS, LEAST, LEAST] * 2)
        heap.undo()
        self.check(SMALL, heap, [GREAT, LESS, LEAST, LEAST])
        empty = Heap(SMALL)
        empty.join(empty)
        self.check(SMALL, empty, [])

    def test_join_with_itself_many_times(self):
        heap = heap_of(SMALL, [LEAST])
        for _ in range(200):
            heap.join(heap)
        self.assertEqual(heap.many(), 2 ** 200)
        self.assertEqual(heap.told("zero"), (GREAT, ("inexact", "over")))
        for _ in range(200):
            heap.undo()
        self.check(SMALL, heap, [LEAST])


class Undo(Checks):
    def test_each_call_one_behind_the_other(self):
        heap, other = heap_of(SMALL, [GREAT]), heap_of(SMALL, [LEAST, TOP, LEAST])
        states = [[], [GREAT]]
        for call, values in (
            (lambda: heap.put(MINUS), [GREAT, MINUS]), (lambda: heap.join(other), [GREAT, MINUS, LEAST, TOP, LEAST]),
            (lambda: heap.take_out(LEAST), [GREAT, MINUS, TOP, LEAST]), (lambda: heap.take_out(GREAT), [MINUS, TOP, LEAST]),
            (lambda: heap.join(heap), [MINUS, TOP, LEAST] * 2), (lambda: heap.join(Heap(SMALL)), [MINUS, TOP, LEAST] * 2),
            (lambda: heap.put(MINUS), [MINUS, TOP, LEAST] * 2 + [MINUS]),
        ):
            call()
            states.append(values)
            self.check(SMALL, heap, values)
        other.undo()
        twin = heap.twin()
        for one in (heap, twin):
            for values in states[-2::-1]:
                self.assertIsNone(one.undo())
                self.check(SMALL, one, values)
            for _ in range(2):
                with self.assertRaises(Nothing) as caught:
                    one.undo()
                self.assertIsInstance(caught.exception, NearError)
            self.check(SMALL, one, [])

    def test_calls_behind_it(self):
        heap = heap_of(SMALL, [GREAT, LEAST])
        heap.undo()
        heap.put(TOP)
        heap.undo()
        self.check(SMALL, heap, [GREAT])
        heap.take_out(GREAT)
        heap.undo()
        self.check(SMALL, heap, [GREAT])
        heap.undo()
        self.check(SMALL, heap, [])
        self.assertRaises(Nothing, heap.undo)

    def test_a_call_that_failed_is_not_taken_back(self):
        heap = heap_of(SMALL, [GREAT, LEAST])
        for call in (lambda: heap.put(("num", 0, 3, 1)), lambda: heap.take_out(TOP), lambda: heap.join(None), lambda: heap.told("near")):
            self.check_unchanged_by(heap, NearError, call)
        heap.undo()
        self.check(SMALL, heap, [GREAT])

    def test_drawn_calls(self):
        for form in (SMALL, TENS, LARGE_FORMATS[0]):
            random = Random(51)
            pool = (some_of(values_of(form), 12) if form != LARGE_FORMATS[0] else some_numbers(form, 10, 52)) + [NAN, TOP]
            heap, values, past = Heap(form), [], []
            for turn in range(250):
                kind = random.choice(("put", "put", "take", "take", "join", "self", "undo", "undo"))
                now = list(values)
                if kind == "undo" and past:
                    heap.undo()
                    values = past.pop()
                    now = None
                elif kind == "put":
                    values = values + [random.choice(pool)]
                    heap.put(values[-1])
                elif kind == "take" and values:
                    value = random.choice(values)
                    heap.take_out(value)
                    values = list(values)
                    values.remove(value)
                elif kind == "join" and len(values) < 40:
                    more = random.choices(pool, k=3)
                    heap.join(heap_of(form, more))
                    values = values + more
                elif kind == "self" and 0 < len(values) < 20:
                    heap.join(heap)
                    values = values * 2
                else:
                    now = None
                if now is not None:
                    past.append(now)
                if turn % 10 == 0:
                    heap = heap.twin()
                self.check(form, heap, values)
            while past:
                heap.undo()
                values = past.pop()
            self.assertEqual(heap.members(), in_order(form, values))
            self.assertRaises(Nothing, heap.undo)


class Twins(Checks):
    def test_it_goes_its_own_way(self):
        heap = heap_of(SMALL, [GREAT, LEAST])
        twin = heap.twin()
        self.assertIs(twin == heap, True)
        twin.put(TOP)
        heap.take_out(GREAT)
        self.check(SMALL, heap, [LEAST])
        self.check(SMALL, twin, [GREAT, LEAST, TOP])
        other = twin.twin()
        for _ in range(3):
            twin.undo()
        self.assertRaises(Nothing, twin.undo)
        self.check(SMALL, twin, [])
        self.check(SMALL, other, [GREAT, LEAST, TOP])
        heap.undo()
        self.check(SMALL, heap, [GREAT, LEAST])
        twin.put(LESS)
        self.check(SMALL, other, [GREAT, LEAST, TOP])
        other.join(heap)
        self.check(SMALL, heap, [GREAT, LEAST])


class Told(Checks):
    def test_nothing_is_left_behind(self):
        heap = heap_of(SMALL, [GREAT, LEAST])
        for value in (TOP, BOTTOM, NAN, LESS, MINUS):
            before = [heap.told(way) for way in WAYS]
            heap.put(value)
            self.assertEqual(heap.told("even"), sum_of(SMALL, "even", [GREAT, LEAST, value]))
            heap.take_out(value)
            self.assertEqual([heap.told(way) for way in WAYS], before)
        heap.put(TOP)
        heap.put(BOTTOM)
        self.assertEqual(heap.told("even"), (NAN, ("invalid",)))
        heap.put(NAN)
        self.assertEqual(heap.told("even"), (NAN, ()))
        heap.take_out(TOP)
        heap.take_out(NAN)
        self.assertEqual(heap.told("even"), (BOTTOM, ()))
        heap.take_out(BOTTOM)
        self.check(SMALL, heap, [GREAT, LEAST])

    def test_zeros(self):
        for values, down in (([MINUS, MINUS], 1), ([PLUS], 0), ([PLUS, MINUS], 1), ([GREAT, LESS], 1), ([], 0)):
            self.assertEqual(heap_of(SMALL, values).told("down"), (("num", down, 0, -2), ()))
            even = 1 if values == [MINUS, MINUS] else 0
            self.assertEqual(heap_of(SMALL, values).told("even"), (("num", even, 0, -2), ()))

    def test_sixty_in_large_formats(self):
        for form in LARGE_FORMATS:
            numbers = some_numbers(form, 60, 53)
            heap = heap_of(form, numbers)
            for way in WAYS:
                self.assertEqual(heap.told(way), sum_of(form, way, numbers))
            for number in numbers[1:]:
                heap.take_out(number)
            self.check(form, heap, numbers[:1])

    def test_members_are_a_new_list_each_time(self):
        heap = heap_of(SMALL, [GREAT, NAN, MINUS, PLUS, LESS, TOP, BOTTOM])
        first = heap.members()
        self.assertEqual(first, [BOTTOM, LESS, MINUS, PLUS, GREAT, TOP, NAN])
        self.assertIs(first.__class__, list)
        first.reverse()
        first.append(LEAST)
        self.assertEqual(heap.members(), [BOTTOM, LESS, MINUS, PLUS, GREAT, TOP, NAN])
        self.assertEqual(heap.many(), 7)


class Equal(Checks):
    def test_whatever_the_order(self):
        first = heap_of(SMALL, SOME[:5])
        for order in permutations(SOME[:5]):
            self.assertIs(heap_of(SMALL, order) == first, True)
        roundabout = heap_of(SMALL, (TOP, LEAST) + SOME[:5])
        self.assertIs(roundabout == first, False)
        roundabout.take_out(TOP)
        roundabout.take_out(LEAST)
        self.assertIs(roundabout == first, True)
        joined = heap_of(SMALL, SOME[:2])
        joined.join(heap_of(SMALL, SOME[2:5]))
        self.assertIs(joined == first, True)

    def test_as_often(self):
        for values, others in (([GREAT], [GREAT, GREAT]), ([GREAT, LEAST], [GREAT, GREAT]), ([GREAT, GREAT, LEAST], [GREAT, LEAST, LEAST]),
                               ([PLUS], [MINUS]), ([], [PLUS]), ([TOP], [BOTTOM]), ([NAN], [NAN, NAN])):
            self.assertIs(heap_of(SMALL, values) == heap_of(SMALL, others), False)
            self.assertIs(heap_of(SMALL, values) != heap_of(SMALL, others), True)
            self.assertIs(heap_of(SMALL, values) == heap_of(SMALL, values[::-1]), True)
        self.assertIs(heap_of(SMALL, [NAN]) == heap_of(SMALL, [NAN]), True)

    def test_with_other_formats(self):
        for form in SMALL_FORMATS:
            for other in SMALL_FORMATS:
                self.assertIs(Heap(form) == Heap(other), form == other)
        number = ("num", 0, 0, -2)
        self.assertIs(heap_of(SMALL, [number]) == heap_of((2, 3, -2, 2), [number]), False)

    def test_with_nothing_else(self):
        heap = heap_of(SMALL, [GREAT])
        for thing in things() + [heap.members(), (SMALL, [GREAT]), {GREAT: 1}, Heap, SMALL]:
            self.assertIs(heap == thing, False)
            self.assertIs(heap != thing, True)
        self.assertIs(Heap(SMALL) == None, False)  # noqa: E711


class Arguments(Checks):
    def test_of_the_constructor(self):
        check_wrong(self, Heap, 0, is_format)
        for form in ([2, 3, -2, 1], (3, 3, 0, 0), (2, 3, 2, 1), (2, 121, 0, 0), (2, 3, 0), (2, 3, -2, True)):
            with self.assertRaises(Wrong) as caught:
                Heap(form)
            self.assertEqual(caught.exception.place, 0)

    def test_of_the_methods(self):
        heap = heap_of(SMALL, [GREAT, TOP])
        twin = heap.twin()
        check_wrong(self, heap.put, 0, lambda thing: is_value(SMALL, thing))
        check_wrong(self, heap.take_out, 0, lambda thing: is_value(SMALL, thing))
        check_wrong(self, heap.join, 0, lambda thing: False)
        check_wrong(self, heap.told, 0, is_way)
        self.check(SMALL, heap, [GREAT, TOP])
        self.check_same_past(heap, twin)

    def test_values_of_other_formats(self):
        heap = heap_of(SMALL, [GREAT])
        for thing in (("num", 0, 8, 1), ("num", 0, 3, 1), ("num", 0, 7, 2), ("num", 0, 1, -3), ["num", 0, 7, 1], ("num", False, 7, 1),
                      ("num", 0, 7, True), ("inf", 2), ("inf", False), ("nan", 0), ("num", 0, 7.0, 1), (GREAT,), [GREAT]):
            for call in (heap.put, heap.take_out):
                self.assertEqual(self.check_unchanged_by(heap, Wrong, lambda: call(thing)).place, 0)

    def test_heaps_of_other_formats(self):
        heap = heap_of(SMALL, [GREAT])
        for other in (Heap(TENS), heap_of((2, 3, -2, 2), [GREAT]), Heap, [heap], (heap,), heap.members()):
            self.assertEqual(self.check_unchanged_by(heap, Wrong, lambda: heap.join(other)).place, 0)

    def test_what_is_handed_in_stays(self):
        other = heap_of(SMALL, [LEAST, NAN])
        heap = heap_of(SMALL, [GREAT])
        value = ("num", 0, 5, 0)
        before = picture(value)
        heap.put(value)
        heap.join(other)
        heap.take_out(value)
        self.assertEqual(picture(value), before)
        self.check(SMALL, other, [LEAST, NAN])
        other.undo()
        self.check(SMALL, other, [LEAST])

    def test_a_copy_made_by_python_is_equal(self):
        heap = heap_of(SMALL, numbers_of(SMALL))
        self.assertIs(copy.deepcopy(heap) == heap, True)


if __name__ == "__main__":
    unittest.main()
