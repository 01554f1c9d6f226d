"""DECIMALS, and digits as texts show them."""

from nearestheld.errors import NoText, Wrong
from nearestheld.forms import is_integer
from nearestheld.fractions import power_below, power_of, times

DIGITS = "0123456789abcdefghijklmnopqrstuvwxyz"


def is_decimal(thing):
    """Whether thing, whatever it is, is a DECIMAL."""
    if not isinstance(thing, tuple) or len(thing) != 3:
        return False
    if not all([is_integer(part) for part in thing]):
        return False
    return thing[0] in (0, 1) and thing[1] >= 0


def digit_text(base, n):
    """The DIGIT TEXT of an integer from 0 on, without needless zeros ahead."""
    # Python's own way from integers to texts, and back, ends at some thousand digits.
    signs = []
    while n > 0 or len(signs) == 0:
        n, digit = divmod(n, base)
        signs.append(DIGITS[digit])
    return "".join(list(reversed(signs)))


def digits_in(base, text):
    """The integer for which a DIGIT TEXT stands, None of any other string."""
    if text == "":
        return None
    n = 0
    for sign in text:
        digit = DIGITS.find(sign)
        if digit < 0 or digit >= base:
            return None
        n = n * base + digit
    return n


def integer_text(n):
    """An integer as Python shows it, also where it has more digits than Python shows."""
    return "-" + digit_text(10, -n) if n < 0 else digit_text(10, n)


def integer_in(text):
    """The integer that integer_text shows so, None if there is none."""
    unsigned = text[1:] if text.startswith("-") else text
    n = digits_in(10, unsigned)
    if n is None or (unsigned.startswith("0") and text != "0"):
        return None
    return -n if text.startswith("-") else n


def decimal_worth(decimal):
    """The FRACTION for which a DECIMAL stands."""
    s, c, e = decimal
    return times((-c if s == 1 else c, 1), power_of(10, e))


def trimmed(decimal):
    """The DECIMAL that stands for the same, whose c is no multiple of 10, or whose c and e are 0."""
    s, c, e = decimal
    if c == 0:
        return (s, 0, 0)
    while c % 10 == 0:
        c, e = c // 10, e + 1
    return (s, c, e)


def digits_many(decimal):
    """How many digits the c of a DECIMAL has, if it is trimmed; none if it is 0."""
    _, c, _ = trimmed(decimal)
    return 0 if c == 0 else places_many(c)


def places_many(c):
    """How many digits an integer above 0 has, those at its end that are 0 being counted."""
    return power_below(10, (c, 1)) + 1


def decimal_of(text):
    """The DECIMAL of a NUMBER TEXT with digits."""
    if not isinstance(text, str):
        raise Wrong(0)
    s, unsigned = parted_sign(text)
    digits, mark, power = unsigned.partition("e")
    ahead, _, behind = digits.partition(".")
    c, e = digits_in(10, ahead + behind), 0
    if mark == "e":
        e = _signed_integer(power)
    if c is None or e is None:
        raise NoText(text)
    return (s, c, e - len(behind))


def parted_sign(text):
    """The SIGN that a text begins with, 0 if there is none, and what stands behind it."""
    if text.startswith("-"):
        return (1, text[1:])
    return (0, text[1:] if text.startswith("+") else text)


def _signed_integer(text):
    """The integer for which digits with perhaps a sign ahead stand, None of any other string."""
    s, unsigned = parted_sign(text)
    n = digits_in(10, unsigned)
    if n is None:
        return None
    return -n if s == 1 else n
