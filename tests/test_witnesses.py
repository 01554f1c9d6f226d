"""Witnesses from outside: Python's own decimal numbers, and the binary ones of the machine."""

import decimal
import math
import struct
import unittest
from bisect import bisect_left
from decimal import Decimal
from fractions import Fraction
from random import Random

from nearestheld.basic import add, by, take, times
from nearestheld.rests import left_over, rest, whole
from nearestheld.roots import fused, root
from nearestheld.rounding import rounded
from nearestheld.scaling import scale
from reference import WAYS, pair_of, some_numbers, worth_of

NAN = ("nan",)
DECIMAL_WAYS = {
    "even": decimal.ROUND_HALF_EVEN, "away": decimal.ROUND_HALF_UP, "up": decimal.ROUND_CEILING,
    "down": decimal.ROUND_FLOOR, "zero": decimal.ROUND_DOWN,
}
SIGNALS = (
    ("by", decimal.DivisionByZero), ("inexact", decimal.Inexact), ("invalid", decimal.InvalidOperation),
    ("over", decimal.Overflow), ("tiny", decimal.Underflow),
)
TEN_FORMATS = ((10, 2, -2, 0), (10, 3, -3, 3), (10, 7, -20, 20), (10, 34, -1200, 1200), (10, 120, -1200, 900))
DOUBLE = (2, 53, -1074, 971)


def number_from(form, s, size):
    """The NUMBER with a size that is the worth of one."""
    base, digits, low, high = form
    if size == 0:
        return ("num", s, 0, low)
    e = low + bisect_left(range(low, high + 1), True, key=lambda e: size < Fraction(base) ** (digits + e))
    c = size / Fraction(base) ** e
    assert c.denominator == 1 and e <= high
    return ("num", s, int(c), e)


class Decimals(unittest.TestCase):
    def context(self, form, way):
        _, digits, low, high = form
        return decimal.Context(prec=digits, Emin=low + digits - 1, Emax=high + digits - 1,
                               rounding=DECIMAL_WAYS[way], clamp=0, traps=[])

    def decimal_of(self, value):
        if value[0] == "nan":
            return Decimal("nan")
        if value[0] == "inf":
            return Decimal("-inf" if value[1] else "inf")
        return Decimal((value[1], tuple([int(digit) for digit in str(value[2])]), value[3]))

    def value_from(self, form, thing):
        if thing.is_nan():
            return NAN
        s = 1 if thing.is_signed() else 0
        if thing.is_infinite():
            return ("inf", s)
        return number_from(form, s, abs(Fraction(thing)))

    def flags_from(self, context):
        return tuple([word for word, signal in SIGNALS if context.flags[signal]])

    def outcome_from(self, form, context, thing):
        return (self.value_from(form, thing), self.flags_from(context))

    def each(self):
        for form in TEN_FORMATS:
            values = some_numbers(form, 60, 8) + [("inf", 0), ("inf", 1), NAN, ("num", 0, 0, form[2])]
            Random(form[1]).shuffle(values)
            for way in WAYS:
                for x, y, z in zip(values, values[1:] + values[:1], values[2:] + values[:2]):
                    yield form, way, x, y, z

    def check(self, form, way, told, method, *values):
        context = self.context(form, way)
        thing = getattr(context, method)(*[self.decimal_of(value) for value in values])
        self.assertEqual(told, self.outcome_from(form, context, thing), (form, way, method, values))

    def test_basic(self):
        for form, way, x, y, _ in self.each():
            self.check(form, way, add(form, way, x, y), "add", x, y)
            self.check(form, way, take(form, way, x, y), "subtract", x, y)
            self.check(form, way, times(form, way, x, y), "multiply", x, y)
            self.check(form, way, by(form, way, x, y), "divide", x, y)

    def test_fused(self):
        for form, way, x, y, z in self.each():
            if NAN not in (x, y, z):
                self.check(form, way, fused(form, way, x, y, z), "fma", x, y, z)

    def test_roots(self):
        for form, way, x, _, _ in self.each():
            # Python's decimal roots know this way alone.
            if way == "even":
                self.check(form, way, root(form, way, x), "sqrt", x)

    def test_rests(self):
        for form, way, x, y, _ in self.each():
            for told, method in ((rest(form, x, y), "remainder_near"), (left_over(form, x, y), "remainder")):
                # Python gives up where the quotient has too many digits.
                special = "inf" in (x[0], y[0]) or NAN in (x, y) or y[2] == 0
                if special or abs(worth_of(form, x) / worth_of(form, y)) < 10 ** form[1] - 1:
                    self.check(form, way, told, method, x, y)

    def test_whole(self):
        for form, way, x, _, _ in self.each():
            context = self.context(form, way)
            thing = context.create_decimal(context.to_integral_exact(self.decimal_of(x)))
            self.assertEqual(whole(form, way, x), self.outcome_from(form, context, thing))

    def test_scale(self):
        for form, way, x, _, _ in self.each():
            for n in (-form[1], -2, -1, 0, 1, 5):
                context = self.context(form, way)
                thing = context.create_decimal(self.decimal_of(x).scaleb(n, decimal.Context(Emin=-9999, Emax=9999, prec=200)))
                self.assertEqual(scale(form, way, x, n), self.outcome_from(form, context, thing))

    def test_rounded(self):
        random = Random(9)
        for form in TEN_FORMATS:
            for _ in range(200):
                digits = random.randrange(10 ** random.randint(1, 2 * form[1]))
                thing = Decimal(random.choice((digits, -digits))).scaleb(
                    random.randint(form[2] - form[1] - 3, form[3] + form[1]),
                    decimal.Context(Emin=-9999, Emax=9999, prec=300))
                for way in WAYS:
                    context = self.context(form, way)
                    expected = self.outcome_from(form, context, context.create_decimal(thing))
                    s = 1 if thing.is_signed() else 0
                    self.assertEqual(rounded(form, way, pair_of(Fraction(thing)), s), expected)


class Doubles(unittest.TestCase):
    def double_of(self, value):
        if value[0] == "nan":
            return math.nan
        size = math.inf if value[0] == "inf" else math.ldexp(value[2], value[3])
        return -size if value[1] else size

    def value_from(self, double):
        if math.isnan(double):
            return NAN
        s = 1 if math.copysign(1, double) < 0 else 0
        return ("inf", s) if math.isinf(double) else number_from_double(s, abs(double))

    def some_doubles(self):
        random = Random(10)
        bits = [random.getrandbits(64) for _ in range(300)]
        near = [(random.getrandbits(1) << 63) | ((1023 + random.randint(-60, 60)) << 52) | random.getrandbits(52)
                for _ in range(300)]
        low = [random.getrandbits(random.randint(1, 54)) for _ in range(100)]
        found = [struct.unpack("<d", struct.pack("<Q", one))[0] for one in bits + near + low]
        found += [0.0, -0.0, math.inf, -math.inf, math.nan, 5e-324, 1.7976931348623157e308, 1.0, -1.0]
        random.shuffle(found)
        return found

    def test_operations(self):
        doubles = self.some_doubles()
        for one, other in zip(doubles, doubles[1:]):
            x, y = self.value_from(one), self.value_from(other)
            self.assertEqual(repr(self.double_of(x)), repr(one))
            self.assertEqual(add(DOUBLE, "even", x, y)[0], self.value_from(one + other))
            self.assertEqual(take(DOUBLE, "even", x, y)[0], self.value_from(one - other))
            self.assertEqual(times(DOUBLE, "even", x, y)[0], self.value_from(one * other))
            if other != 0:
                self.assertEqual(by(DOUBLE, "even", x, y)[0], self.value_from(one / other))
            if one >= 0:
                self.assertEqual(root(DOUBLE, "even", x)[0], self.value_from(math.sqrt(one)))
            if not math.isinf(one) and other != 0:
                self.assertEqual(left_over(DOUBLE, x, y)[0], self.value_from(math.fmod(one, other)))
                self.assertEqual(rest(DOUBLE, x, y)[0], self.value_from(math.remainder(one, other)))

    def test_whole_numbers_and_scaling(self):
        for one in self.some_doubles():
            x = self.value_from(one)
            if math.isfinite(one):
                for way, near in (("down", math.floor), ("up", math.ceil), ("zero", math.trunc), ("even", round)):
                    expected = self.value_from(math.copysign(float(near(one)), one))
                    self.assertEqual(whole(DOUBLE, way, x)[0], expected)
                for n in (-1100, -60, -1, 0):
                    self.assertEqual(scale(DOUBLE, "even", x, n)[0], self.value_from(math.ldexp(one, n)))


def number_from_double(s, size):
    """The NUMBER with the size of a double, by what it is stored as."""
    bits = struct.unpack("<Q", struct.pack("<d", size))[0]
    exponent, c = bits >> 52, bits & (2 ** 52 - 1)
    return ("num", s, c, -1074) if exponent == 0 else ("num", s, c + 2 ** 52, exponent - 1075)


if __name__ == "__main__":
    unittest.main()
