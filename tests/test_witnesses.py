"""Witnesses from outside: Python's own decimal numbers, and the binary ones of the machine."""

import decimal
import math
import struct
import unittest
from bisect import bisect_left
from decimal import Decimal
from fractions import Fraction
from random import Random

from nearestheld.basic import add, by, take, times
from nearestheld.formats import next_down, next_up, rank_of, unit_of
from nearestheld.heap import Heap
from nearestheld.parted import parted_product, parted_sum
from nearestheld.reader import read, read_decimal, reads_back
from nearestheld.rests import left_over, rest, whole
from nearestheld.roots import fused, root
from nearestheld.rounding import rounded
from nearestheld.scaling import scale
from nearestheld.shortest import shortest
from nearestheld.shower import told_digits, told_places
from nearestheld.sums import dot_of, sum_of
from nearestheld.texts import shortest_text
from nearestheld.turning import from_integer, integer_of, turned
from nearestheld.words import trimmed
from reference import WAYS, pair_of, some_numbers, worth_of

NAN = ("nan",)
DECIMAL_WAYS = {
    "even": decimal.ROUND_HALF_EVEN, "away": decimal.ROUND_HALF_UP, "up": decimal.ROUND_CEILING,
    "down": decimal.ROUND_FLOOR, "zero": decimal.ROUND_DOWN,
}
SIGNALS = (
    ("by", decimal.DivisionByZero), ("inexact", decimal.Inexact), ("invalid", decimal.InvalidOperation),
    ("over", decimal.Overflow), ("tiny", decimal.Underflow),
)
TEN_FORMATS = ((10, 2, -2, 0), (10, 3, -3, 3), (10, 7, -20, 20), (10, 34, -1200, 1200), (10, 120, -1200, 900))
DOUBLE, SINGLE = (2, 53, -1074, 971), (2, 24, -149, 104)


def number_from(form, s, size):
    """The NUMBER with a size that is the worth of one."""
    base, digits, low, high = form
    if size == 0:
        return ("num", s, 0, low)
    e = low + bisect_left(range(low, high + 1), True, key=lambda e: size < Fraction(base) ** (digits + e))
    c = size / Fraction(base) ** e
    assert c.denominator == 1 and e <= high
    return ("num", s, int(c), e)


class Decimals(unittest.TestCase):
    def context(self, form, way):
        _, digits, low, high = form
        return decimal.Context(prec=digits, Emin=low + digits - 1, Emax=high + digits - 1,
                               rounding=DECIMAL_WAYS[way], clamp=0, traps=[])

    def decimal_of(self, value):
        if value[0] == "nan":
            return Decimal("nan")
        if value[0] == "inf":
            return Decimal("-inf" if value[1] else "inf")
        return Decimal((value[1], tuple([int(digit) for digit in str(value[2])]), value[3]))

    def value_from(self, form, thing):
        if thing.is_nan():
            return NAN
        s = 1 if thing.is_signed() else 0
        if thing.is_infinite():
            return ("inf", s)
        return number_from(form, s, abs(Fraction(thing)))

    def flags_from(self, context):
        return tuple([word for word, signal in SIGNALS if context.flags[signal]])

    def outcome_from(self, form, context, thing):
        return (self.value_from(form, thing), self.flags_from(context))

    def each(self):
        for form in TEN_FORMATS:
            values = some_numbers(form, 60, 8) + [("inf", 0), ("inf", 1), NAN, ("num", 0, 0, form[2])]
            Random(form[1]).shuffle(values)
            for way in WAYS:
                for x, y, z in zip(values, values[1:] + values[:1], values[2:] + values[:2]):
                    yield form, way, x, y, z

    def check(self, form, way, told, method, *values):
        context = self.context(form, way)
        thing = getattr(context, method)(*[self.decimal_of(value) for value in values])
        self.assertEqual(told, self.outcome_from(form, context, thing), (form, way, method, values))

    def test_basic(self):
        for form, way, x, y, _ in self.each():
            self.check(form, way, add(form, way, x, y), "add", x, y)
            self.check(form, way, take(form, way, x, y), "subtract", x, y)
            self.check(form, way, times(form, way, x, y), "multiply", x, y)
            self.check(form, way, by(form, way, x, y), "divide", x, y)

    def test_fused(self):
        for form, way, x, y, z in self.each():
            if NAN not in (x, y, z):
                self.check(form, way, fused(form, way, x, y, z), "fma", x, y, z)

    def test_roots(self):
        for form, way, x, _, _ in self.each():
            # Python's decimal roots know this way alone.
            if way == "even":
                self.check(form, way, root(form, way, x), "sqrt", x)

    def test_rests(self):
        for form, way, x, y, _ in self.each():
            for told, method in ((rest(form, x, y), "remainder_near"), (left_over(form, x, y), "remainder")):
                # Python gives up where the quotient has too many digits.
                special = "inf" in (x[0], y[0]) or NAN in (x, y) or y[2] == 0
                if special or abs(worth_of(form, x) / worth_of(form, y)) < 10 ** form[1] - 1:
                    self.check(form, way, told, method, x, y)

    def test_whole(self):
        for form, way, x, _, _ in self.each():
            context = self.context(form, way)
            thing = context.create_decimal(context.to_integral_exact(self.decimal_of(x)))
            self.assertEqual(whole(form, way, x), self.outcome_from(form, context, thing))

    def test_scale(self):
        for form, way, x, _, _ in self.each():
            for n in (-form[1], -2, -1, 0, 1, 5):
                context = self.context(form, way)
                thing = context.create_decimal(self.decimal_of(x).scaleb(n, decimal.Context(Emin=-9999, Emax=9999, prec=200)))
                self.assertEqual(scale(form, way, x, n), self.outcome_from(form, context, thing))

    def test_rounded(self):
        random = Random(9)
        for form in TEN_FORMATS:
            for _ in range(200):
                digits = random.randrange(10 ** random.randint(1, 2 * form[1]))
                thing = Decimal(random.choice((digits, -digits))).scaleb(
                    random.randint(form[2] - form[1] - 3, form[3] + form[1]),
                    decimal.Context(Emin=-9999, Emax=9999, prec=300))
                for way in WAYS:
                    context = self.context(form, way)
                    expected = self.outcome_from(form, context, context.create_decimal(thing))
                    s = 1 if thing.is_signed() else 0
                    self.assertEqual(rounded(form, way, pair_of(Fraction(thing)), s), expected)


class Doubles(unittest.TestCase):
    def double_of(self, value):
        if value[0] == "nan":
            return math.nan
        size = math.inf if value[0] == "inf" else math.ldexp(value[2], value[3])
        return -size if value[1] else size

    def value_from(self, double):
        if math.isnan(double):
            return NAN
        s = 1 if math.copysign(1, double) < 0 else 0
        return ("inf", s) if math.isinf(double) else number_from_double(s, abs(double))

    def some_doubles(self):
        random = Random(10)
        bits = [random.getrandbits(64) for _ in range(300)]
        near = [(random.getrandbits(1) << 63) | ((1023 + random.randint(-60, 60)) << 52) | random.getrandbits(52)
                for _ in range(300)]
        low = [random.getrandbits(random.randint(1, 54)) for _ in range(100)]
        found = [struct.unpack("<d", struct.pack("<Q", one))[0] for one in bits + near + low]
        found += [0.0, -0.0, math.inf, -math.inf, math.nan, 5e-324, 1.7976931348623157e308, 1.0, -1.0]
        random.shuffle(found)
        return found

    def test_operations(self):
        doubles = self.some_doubles()
        for one, other in zip(doubles, doubles[1:]):
            x, y = self.value_from(one), self.value_from(other)
            self.assertEqual(repr(self.double_of(x)), repr(one))
            self.assertEqual(add(DOUBLE, "even", x, y)[0], self.value_from(one + other))
            self.assertEqual(take(DOUBLE, "even", x, y)[0], self.value_from(one - other))
            self.assertEqual(times(DOUBLE, "even", x, y)[0], self.value_from(one * other))
            if other != 0:
                self.assertEqual(by(DOUBLE, "even", x, y)[0], self.value_from(one / other))
            if one >= 0:
                self.assertEqual(root(DOUBLE, "even", x)[0], self.value_from(math.sqrt(one)))
            if not math.isinf(one) and other != 0:
                self.assertEqual(left_over(DOUBLE, x, y)[0], self.value_from(math.fmod(one, other)))
                self.assertEqual(rest(DOUBLE, x, y)[0], self.value_from(math.remainder(one, other)))

    def test_whole_numbers_and_scaling(self):
        for one in self.some_doubles():
            x = self.value_from(one)
            if math.isfinite(one):
                for way, near in (("down", math.floor), ("up", math.ceil), ("zero", math.trunc), ("even", round)):
                    expected = self.value_from(math.copysign(float(near(one)), one))
                    self.assertEqual(whole(DOUBLE, way, x)[0], expected)
                for n in (-1100, -60, -1, 0):
                    self.assertEqual(scale(DOUBLE, "even", x, n)[0], self.value_from(math.ldexp(one, n)))

    def test_neighbours_units_and_ranks(self):
        for one in self.some_doubles():
            x = self.value_from(one)
            self.assertEqual(next_up(DOUBLE, x), self.value_from(math.nextafter(one, math.inf)))
            self.assertEqual(next_down(DOUBLE, x), self.value_from(math.nextafter(one, -math.inf)))
            if math.isfinite(one):
                self.assertEqual(Fraction(*unit_of(DOUBLE, x)), Fraction(math.ulp(one)))
            if not math.isnan(one):
                bits = struct.unpack("<Q", struct.pack("<d", abs(one)))[0]
                self.assertEqual(rank_of(DOUBLE, x), -bits if one < 0 else bits)

    def test_turned_to_singles_and_back(self):
        for one in self.some_doubles():
            x = self.value_from(one)
            told = turned(DOUBLE, "even", SINGLE, x)[0]
            if told[0] == "inf" and math.isfinite(one):
                with self.assertRaises(OverflowError):
                    struct.pack("<f", one)
            else:
                near = struct.unpack("<f", struct.pack("<f", one))[0]
                self.assertEqual(turned(SINGLE, "even", DOUBLE, told), (self.value_from(near), ()))

    def test_integers(self):
        random = Random(11)
        for _ in range(200):
            n = random.choice((1, -1)) * random.randrange(2 ** random.randint(1, 1000))
            self.assertEqual(from_integer(DOUBLE, "even", n)[0], self.value_from(float(n)))
        for one in self.some_doubles():
            x = self.value_from(one)
            if math.isfinite(one):
                for way, near in (("down", math.floor), ("up", math.ceil), ("zero", math.trunc), ("even", round)):
                    self.assertEqual(integer_of(DOUBLE, way, x)[0], near(one))

    def test_shortest(self):
        for one in self.some_doubles() + [9007199254740992.0, 1e22, 1e23, 0.1, 2.0 ** -44, 123456789.0, 1e-5, 9.5e15]:
            if math.isfinite(one):
                s, c, e = self.trimmed_from(Decimal(repr(one)))
                # Of two that are equally near Python shows the even one.
                if 2 * (c * Fraction(10) ** e - abs(Fraction(one))) == Fraction(10) ** e:
                    c = c - 1
                self.assertEqual(shortest(DOUBLE, self.value_from(one)), (s, c, e), one)

    def test_reading(self):
        random = Random(12)
        for _ in range(1500):
            digits = str(random.randrange(10 ** random.randint(1, 25)))
            at = random.randint(0, len(digits))
            text = random.choice(("", "-", "+")) + digits[:at] + "." + digits[at:]
            text += random.choice(("", "e5", f"e{random.randint(-340, 320)}", f"e{random.randint(-30, 30)}"))
            self.assertEqual(read(DOUBLE, "even", text)[0], self.value_from(float(text)), text)

    def test_reading_half_way(self):
        for one in self.some_doubles()[:300]:
            if math.isfinite(one) and one > 0 and math.isfinite(math.nextafter(one, math.inf)):
                with decimal.localcontext(decimal.Context(prec=2000)):
                    half = (Decimal(one) + Decimal(math.nextafter(one, math.inf))) / 2
                s, digits, e = half.as_tuple()
                c = int("".join(map(str, digits)))
                for decimal_near in ((s, c, e), (s, c * 10 ** 900 + 1, e - 900), (s, c * 10 ** 900 - 1, e - 900)):
                    text = f"{decimal_near[1]}e{decimal_near[2]}"
                    value = self.value_from(float(text))
                    self.assertEqual(read_decimal(DOUBLE, "even", decimal_near)[0], value)
                    self.assertIs(reads_back(DOUBLE, decimal_near, value), True)

    def test_told_digits_and_places(self):
        for one in self.some_doubles()[:400]:
            if math.isfinite(one) and one != 0:
                x, exact = self.value_from(one), Decimal(one)
                for many in (1, 3, 17, 30):
                    s, digits, e = Decimal(f"{one:.{many - 1}e}").as_tuple()
                    expected = (s, int("".join(map(str, digits))), e)
                    self.assertEqual(told_digits(DOUBLE, x, many, "even")[0], expected)
                for way, rounding in DECIMAL_WAYS.items():
                    context = decimal.Context(prec=9, rounding=rounding, Emin=-9999, Emax=9999)
                    told, is_exact = told_digits(DOUBLE, x, 9, way)
                    self.assertEqual(trimmed(told), self.trimmed_from(context.plus(exact)))
                    self.assertIs(is_exact, context.plus(exact) == exact)
                    context = decimal.Context(prec=2000, rounding=rounding)
                    for places in (0, 5):
                        near = exact.quantize(Decimal(1).scaleb(-places), context=context)
                        told, is_exact = told_places(DOUBLE, x, places, way)
                        self.assertEqual(told, (near.as_tuple()[0], int(near.copy_abs().scaleb(places, context)), -places))
                        self.assertIs(is_exact, near == exact)

    def test_sums(self):
        random = Random(13)
        for many in (0, 1, 2, 3, 10, 60):
            for _ in range(30):
                some = [one for one in self.some_doubles() if math.isfinite(one) and abs(one) < 1e300]
                picked = random.choices(some, k=many)
                picked += [-one * random.choice((1, 1, 1 + 2.0 ** -50)) for one in picked[:many // 2]]
                expected = math.fsum(picked)
                values = [self.value_from(one) for one in picked]
                told = sum_of(DOUBLE, "even", values)[0]
                heap = Heap(DOUBLE)
                for value in values[::-1]:
                    heap.put(value)
                self.assertEqual(heap.told("even")[0], told)
                # Python's sum of nothing left has no sign.
                self.assertEqual(told if expected else told[2:], self.value_from(expected) if expected else (0, -1074))

    def test_what_a_sum_and_a_product_lack(self):
        doubles = [one for one in self.some_doubles() if math.isfinite(one)]
        for one, other in zip(doubles, doubles[1:]):
            x, y = self.value_from(one), self.value_from(other)
            near = one + other
            if math.isfinite(near):
                told, rest = parted_sum(DOUBLE, x, y)
                self.assertEqual(told, self.value_from(near))
                self.assertEqual(Fraction(self.double_of(rest)), Fraction(one) + Fraction(other) - Fraction(near))
            near = one * other
            self.assertEqual(dot_of(DOUBLE, "even", [(x, y)])[0], self.value_from(near))
            if math.isfinite(near):
                told, rest = parted_product(DOUBLE, x, y)
                self.assertEqual(told, self.value_from(near))
                lacking = Fraction(one) * Fraction(other) - Fraction(near)
                try:
                    is_double = Fraction(float(lacking)) == lacking
                except OverflowError:
                    is_double = False
                self.assertEqual(None if rest is None else Fraction(self.double_of(rest)), lacking if is_double else None)

    def test_shortest_texts(self):
        for one in self.some_doubles():
            if not math.isnan(one):
                self.assertEqual(float(shortest_text(DOUBLE, self.value_from(one))), one)

    def trimmed_from(self, thing):
        s, digits, e = thing.as_tuple()
        return trimmed((s, int("".join(map(str, digits))), e))


def number_from_double(s, size):
    """The NUMBER with the size of a double, by what it is stored as."""
    bits = struct.unpack("<Q", struct.pack("<d", size))[0]
    exponent, c = bits >> 52, bits & (2 ** 52 - 1)
    return ("num", s, c, -1074) if exponent == 0 else ("num", s, c + 2 ** 52, exponent - 1075)


if __name__ == "__main__":
    unittest.main()
