"""[12]: FRACTIONS."""

import unittest
from fractions import Fraction
from math import ceil, floor

from nearestheld.forms import is_fraction, is_integer
from nearestheld.fractions import (
    added, ceiling_of, compared, floor_of, lessened, nearest_integer, over, power_of, reduced, size_of,
    times, total_of,
)
from reference import WAYS, fraction_of, pair_of

LONG = 10 ** 2000 + 7
SOME = [pair_of(Fraction(n, d)) for n in range(-9, 10) for d in range(1, 9)] + [
    (LONG, 1), (-LONG, 1), (1, LONG), (-1, LONG), (LONG, LONG + 1), (-LONG - 2, LONG), (3 * LONG, 2),
]


class Reckoning(unittest.TestCase):
    def check(self, told, expected):
        self.assertIs(is_fraction(told), True, told)
        self.assertEqual(told, pair_of(expected))

    def test_reduced(self):
        for n in range(-12, 13):
            for d in list(range(-12, 0)) + list(range(1, 13)):
                self.check(reduced(n, d), Fraction(n, d))
        self.check(reduced(0, -5), Fraction(0))
        self.check(reduced(6 * LONG, -4 * LONG), Fraction(-3, 2))
        self.check(reduced(-LONG, -LONG - 1), Fraction(LONG, LONG + 1))

    def test_two_at_a_time(self):
        for one in SOME:
            for other in SOME:
                left, right = fraction_of(one), fraction_of(other)
                self.check(added(one, other), left + right)
                self.check(lessened(one, other), left - right)
                self.check(times(one, other), left * right)
                if right != 0:
                    self.check(over(one, other), left / right)
                order = compared(one, other)
                self.assertIs(is_integer(order), True)
                self.assertEqual(order, (left > right) - (left < right))

    def test_many_twos(self):
        # As bounds of roots have them.
        some = [pair_of(Fraction(n * 2 ** up, d * 2 ** down)) for n in (-5, 1, 3 ** 900) for d in (1, 7, 3 ** 899) for up, down in (
            (0, 0), (1, 3), (64, 0), (0, 64), (0, 3000), (3000, 0), (3000, 2999))]
        for one in some:
            for other in some:
                left, right = fraction_of(one), fraction_of(other)
                self.check(added(one, other), left + right)
                self.check(lessened(one, other), left - right)
                self.check(times(one, other), left * right)
                self.check(over(one, other), left / right)
                self.check(reduced(one[0] * other[0], one[1] * other[0]), left)

    def test_total(self):
        for some in ([], [(1, 2)], [(-1, 2), (1, 2)], SOME, [(1, 3)] * 60, [(LONG, 1), (1, LONG), (-LONG, 1)]):
            expected = sum([fraction_of(one) for one in some], Fraction(0))
            self.check(total_of(some), expected)
            self.check(total_of(tuple(some)), expected)
            self.check(total_of(some[::-1]), expected)

    def test_a_list_that_is_handed_in_stays(self):
        some = [(1, 2), (1, 3)]
        self.assertEqual([total_of(some), total_of(some)], [(5, 6), (5, 6)])
        self.assertEqual(some, [(1, 2), (1, 3)])

    def test_size(self):
        for one in SOME:
            self.check(size_of(one), abs(fraction_of(one)))

    def test_powers(self):
        for base in (1, 2, 3, 10, 36, 37, 10 ** 9):
            for e in list(range(-40, 41)) + [-1200, 1199, 1200]:
                self.check(power_of(base, e), Fraction(base) ** e)
        for e in (10 ** 50, -10 ** 50, 0):
            self.assertEqual(power_of(1, e), (1, 1))
        self.assertEqual(power_of(2, -9999), (1, 2 ** 9999))


class Integers(unittest.TestCase):
    def test_floors_and_ceilings(self):
        for one in SOME:
            self.assertEqual(floor_of(one), floor(fraction_of(one)))
            self.assertEqual(ceiling_of(one), ceil(fraction_of(one)))
            self.assertIs(is_integer(floor_of(one)), True)
        self.assertEqual([floor_of((-1, 3)), ceiling_of((-1, 3)), floor_of((1, 3)), ceiling_of((1, 3))], [-1, 0, 0, 1])
        self.assertEqual([floor_of((0, 1)), ceiling_of((0, 1)), floor_of((-4, 1)), ceiling_of((-4, 1))], [0, 0, -4, -4])

    def expected(self, way, x):
        low, high = floor(x), ceil(x)
        inner, outer = (high, low) if x < 0 else (low, high)
        if way in ("up", "down", "zero"):
            return {"up": high, "down": low, "zero": inner}[way]
        if abs(x - inner) != abs(x - outer):
            return min((inner, outer), key=lambda near: abs(x - near))
        if way == "away":
            return outer
        return inner if inner % 2 == 0 else outer

    def test_nearest_integers_by_each_way(self):
        little = Fraction(1, 10 ** 300)
        spots = [Fraction(n, 2) for n in range(-9, 10)] + [Fraction(2 * LONG + 1, 2), Fraction(-LONG * 2 - 3, 2)]
        spots += [spot + off for spot in spots for off in (little, -little)] + [fraction_of(one) for one in SOME]
        for way in WAYS:
            for spot in spots:
                told = nearest_integer(way, pair_of(spot))
                self.assertIs(is_integer(told), True)
                self.assertEqual(told, self.expected(way, spot), (way, spot))

    def test_halves(self):
        halves = [(-5, 2), (-3, 2), (-1, 2), (1, 2), (3, 2), (5, 2)]
        self.assertEqual([nearest_integer("even", one) for one in halves], [-2, -2, 0, 0, 2, 2])
        self.assertEqual([nearest_integer("away", one) for one in halves], [-3, -2, -1, 1, 2, 3])
        self.assertEqual([nearest_integer("up", one) for one in halves], [-2, -1, 0, 1, 2, 3])
        self.assertEqual([nearest_integer("down", one) for one in halves], [-3, -2, -1, 0, 1, 2])
        self.assertEqual([nearest_integer("zero", one) for one in halves], [-2, -1, 0, 0, 1, 2])


if __name__ == "__main__":
    unittest.main()
