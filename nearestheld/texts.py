"""DECIMALS and VALUES as texts."""

from nearestheld.shortest import shortest
from nearestheld.words import digit_text
from nearestheld.worths import is_finite


def plain_text(decimal):
    """The text of a DECIMAL without an exponent."""
    s, c, e = decimal
    digits = digit_text(10, c)
    if e < 0:
        digits = digits.rjust(1 - e, "0")
        digits = digits[:e] + "." + digits[e:]
    elif c != 0:
        digits = digits + "0" * e
    return _sign_text(s) + digits


def marked_text(decimal):
    """The text of a DECIMAL with one digit ahead of its point, and an exponent."""
    s, c, e = decimal
    digits = digit_text(10, c)
    others = digits[1:]
    point = "." if others != "" else ""
    return _sign_text(s) + digits[0] + point + others + "e" + str(e + len(others))


def shortest_text(form, value):
    """The shortest text of a VALUE."""
    if value[0] == "nan":
        return "nan"
    if not is_finite(value):
        return _sign_text(value[1]) + "inf"
    decimal = shortest(form, value)
    place = decimal[2] + len(digit_text(10, decimal[1]))
    return plain_text(decimal) if -4 <= place and place <= 21 else marked_text(decimal)


def _sign_text(s):
    """What stands ahead of a text with the SIGN s."""
    return "-" if s == 1 else ""
