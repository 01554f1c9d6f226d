"""[23]: DECIMALS and digits."""

import re
import unittest
from fractions import Fraction
from random import Random

from nearestheld.errors import NoText
from nearestheld.forms import is_fraction
from nearestheld.words import (
    decimal_of, decimal_worth, digit_text, digits_in, digits_many, integer_in, integer_text, is_decimal, trimmed,
)
from things import check_any_value, check_wrong, variants

SIGNS = "0123456789abcdefghijklmnopqrstuvwxyz"
NUMBER_TEXT = re.compile(r"\A([+-]?)(?=\.?[0-9])([0-9]*)(?:\.([0-9]*))?(?:e([+-]?[0-9]+))?\Z")
DECIMALS = (
    (0, 0, 0), (1, 0, 0), (0, 0, 5000), (1, 0, -5000), (0, 1, 0), (1, 25, -1), (0, 1200, -3), (1, 10 ** 60, 5),
    (0, 10 ** 4199, 0), (1, 7 * 10 ** 4000 + 10, -5000), (0, 9 * 10 ** 9 + 9, 5000), (0, 5, -2), (0, 1, 10 ** 30),
    (1, 100, -10 ** 50),
)


def decimal_in(text):
    """The DECIMAL of a NUMBER TEXT by Python's own pattern, None if it is none."""
    found = NUMBER_TEXT.match(text)
    if not found:
        return None
    sign, ahead, behind, power = found.groups()
    behind = behind or ""
    return (1 if sign == "-" else 0, int(ahead + behind), int(power or "0") - len(behind))


class Decimals(unittest.TestCase):
    def test_what_is_one(self):
        for decimal in DECIMALS:
            self.assertIs(is_decimal(decimal), True)

    def test_what_is_none(self):
        for thing in ((2, 1, 0), (-1, 1, 0), (0, -1, 0), (0, 1), (0, 1, 0, 0), [0, 1, 0], (0, 1, 0.0), (False, 1, 0),
                      (0, True, 0), (0, 1, False), ("0", 1, 0), (0, "1", 0), (0, 1, None), ("num", 0, 1, 0), (0, (1,), 0)):
            self.assertIs(is_decimal(thing), False, thing)

    def test_any_value(self):
        check_any_value(self, is_decimal, variants((1, 25, -1)) + variants((0, 0, 1)))
        for thing in variants((1, 25, -1)):
            told = isinstance(thing, tuple) and len(thing) == 3 and all([type(part) is int for part in thing])
            self.assertIs(is_decimal(thing), told and thing[0] in (0, 1) and thing[1] >= 0, thing)

    def test_worth(self):
        for decimal in DECIMALS[:12]:
            s, c, e = decimal
            told = decimal_worth(decimal)
            self.assertIs(is_fraction(told), True)
            self.assertEqual(Fraction(*told), (-c if s else c) * Fraction(10) ** e)

    def test_trimmed(self):
        for decimal in DECIMALS:
            told = trimmed(decimal)
            self.assertIs(is_decimal(told), True)
            self.assertEqual(told[0], decimal[0])
            if decimal[1] == 0:
                self.assertEqual(told, (decimal[0], 0, 0))
            else:
                self.assertNotEqual(told[1] % 10, 0)
                self.assertEqual(told[1] * 10 ** (told[2] - decimal[2]), decimal[1])
            self.assertEqual(trimmed(told), told)

    def test_digits_many(self):
        for c, many in ((0, 0), (1, 1), (10, 1), (1200, 2), (1201, 4), (999, 3), (10 ** 4199, 1), (10 ** 4199 + 1, 4200),
                        (10 ** 40 - 1, 40), (10 ** 40, 1), (9, 1), (11, 2), (99, 2), (100, 1), (101, 3)):
            for s in (0, 1):
                for e in (-5000, -1, 0, 3, 5000):
                    self.assertEqual(digits_many((s, c, e)), many)


class Digits(unittest.TestCase):
    def some_integers(self, base):
        random = Random(base)
        return [0, 1, base - 1, base, base + 1, base ** 2 - 1, base ** 2, base ** 40, base ** 40 - 1] + [
            random.randrange(10 ** random.randint(1, 300)) for _ in range(30)]

    def test_there_and_back(self):
        for base in range(2, 37):
            for n in self.some_integers(base):
                text = digit_text(base, n)
                self.assertEqual(int(text, base), n)
                self.assertTrue(text == "0" or not text.startswith("0"))
                self.assertTrue(all([sign in SIGNS[:base] for sign in text]))
                self.assertEqual(digits_in(base, text), n)
                self.assertEqual(digits_in(base, "000" + text), n)

    def test_long_ones(self):
        # Python's own way from integers to texts ends at 4,300 digits.
        for n in (10 ** 4199, 10 ** 4200 - 1, 10 ** 5000 + 7, 10 ** 9000 - 1):
            text = digit_text(10, n)
            self.assertEqual(len(text), len(text.lstrip("0")))
            self.assertEqual((int(text[:4000]), int(text[-100:])), (n // 10 ** (len(text) - 4000), n % 10 ** 100))
            self.assertEqual(digits_in(10, text), n)
        self.assertEqual(digits_in(36, "z" * 3000), 36 ** 3000 - 1)
        self.assertEqual(digit_text(2, 2 ** 3000), "1" + "0" * 3000)

    def test_each_sign_of_each_base(self):
        for base in range(2, 37):
            for code in list(range(0, 300)) + [0x660, 0x669, 0x966, 0xFF10, 0xFF41, 0x1D7CE, 0x2160, 0xB2]:
                sign = chr(code)
                expected = SIGNS.index(sign) if sign in SIGNS[:base] else None
                self.assertEqual(digits_in(base, sign), expected, (base, sign))
                if expected is None:
                    for text in ("1" + sign, sign + "1", "1" + sign + "0"):
                        self.assertIsNone(digits_in(base, text), (base, text))

    def test_what_is_no_digit_text(self):
        for base in (2, 10, 16, 36):
            for text in ("", " ", " 1", "1 ", "1 0", "+1", "-1", "1_0", "0x1", "1.0", "1\n", "\n", "A", "Z", "1A", "\t1", "."):
                if base != 36 or "x" not in text:
                    self.assertIsNone(digits_in(base, text), (base, text))
        self.assertIsNone(digits_in(2, "12"))
        self.assertIsNone(digits_in(10, "9a"))
        self.assertIsNone(digits_in(35, "z"))
        self.assertEqual([digits_in(36, "0x1"), digits_in(16, "ff"), digits_in(16, "0")], [33 * 36 + 1, 255, 0])

    def test_integers_with_signs(self):
        for n in (0, 5, -5, 10, -10, 10 ** 4299, -10 ** 4299):
            self.assertEqual(integer_text(n), str(n))
            self.assertEqual(integer_in(str(n)), n)
        for n in (10 ** 6000, -10 ** 6000 + 1):
            self.assertEqual(integer_in(integer_text(n)), n)
        for text in ("", "-", "+5", "05", "-05", "-0", "00", "5 ", " 5", "5.", "--5", "a", "- 5", "5-"):
            self.assertIsNone(integer_in(text), text)


class NumberTexts(unittest.TestCase):
    def check(self, text):
        expected = decimal_in(text)
        if expected is None:
            with self.assertRaises(NoText) as caught:
                decimal_of(text)
            self.assertIs(caught.exception.text, text)
        else:
            told = decimal_of(text)
            self.assertIs(is_decimal(told), True)
            self.assertEqual(told, expected, text)
        return expected

    def test_each_kind(self):
        for sign in ("", "+", "-"):
            for digits in ("0", "7", "00", "1250", "1.250", ".5", "7.", "0.0", "00.10", "." + "0" * 900 + "1", "9" * 900):
                for power in ("", "e0", "e5", "e+5", "e-5", "e00012", "e-0", "e" + "9" * 1000, "e-" + "9" * 1000):
                    self.assertIsNotNone(self.check(sign + digits + power))

    def test_texts_one_sign_off(self):
        for text in ("", ".", "+", "-", "e", "e5", ".e5", "+.e5", "-e5", "1e", "1e+", "1e-", "1.e", "..", "1..2", ".1.", "1.2.3",
                     "--1", "++1", "+-1", "-+1", "1-", "1+1", " 1", "1 ", "1 2", "1\n", "\n1", "1\n2", "1e 5", "1 e5", "1e5 ",
                     "E5", "1E5", "1e5e5", "1e5.0", "1e.5", "1e+-5", "1e--5", "1e5-", "inf", "-inf", "+inf", "nan", "-nan", "+nan",
                     "infe5", "Inf", "INF", "NaN", "infinity", "0x1", "1_0", "1,0", "a", "1a", "1f", "\t1", "1e\n5", "- 1", "~"):
            self.assertIsNone(self.check(text), text)

    def test_signs_of_other_alphabets(self):
        for text in ("\u0661", "1\u0662", "\uff11", "\u00b2", "1e\u0661", "\u22121", "1\u00a0", "\u0967.5", "1.\u0665"):
            self.assertIsNone(self.check(text), text)

    def test_drawn_texts(self):
        random = Random(23)
        taken = 0
        for _ in range(20000):
            text = "".join([random.choice("0123456789..ee+-- 1") for _ in range(random.randint(1, 6))])
            taken += self.check(text) is not None
        self.assertGreater(taken, 1000)

    def test_texts_with_one_sign_more_fewer_or_otherwise(self):
        for text in ("-1.250e-3", "+.5e12", "7.e+0", "0042"):
            for at in range(len(text) + 1):
                self.check(text[:at] + text[at + 1:])
                for sign in "0.e+- \nE_nif~":
                    self.check(text[:at] + sign + text[at:])
                    self.check(text[:at] + sign + text[at + 1:])

    def test_long_ones(self):
        self.assertEqual(decimal_of("-" + "0" * 2000 + "." + "7" * 999), (1, 7 * (10 ** 999 - 1) // 9, -999))
        self.assertEqual(decimal_of("1" + "0" * 6000 + "e-6000"), (0, 10 ** 6000, -6000))
        self.assertEqual(decimal_of("5e-" + "1" * 2990), (0, 5, -((10 ** 2990 - 1) // 9)))

    def test_no_string(self):
        check_wrong(self, decimal_of, 0, lambda thing: isinstance(thing, str))


if __name__ == "__main__":
    unittest.main()
