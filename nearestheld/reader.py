"""Texts and DECIMALS read."""

from nearestheld.errors import NoText, Wrong
from nearestheld.forms import is_format, is_number, is_way
from nearestheld.fractions import power_below
from nearestheld.rounding import rounded
from nearestheld.words import decimal_of, decimal_worth, digit_text, digits_in, integer_in, parted_sign
from nearestheld.worths import zero


def read_decimal(form, way, decimal):
    """The OUTCOME of a DECIMAL, whatever its e is."""
    s, c, e = decimal
    if c == 0:
        return (zero(form, s), ())
    _, digits, low, high = form
    # As each base is below 10 ** 2, 10 ** far goes OVER, and 10 ** -far is below half of all.
    far = 2 * (abs(low) + abs(high) + digits) + 1
    place = power_below(10, (c, 1)) + e
    if abs(place) > far:
        decimal = (s, 1, far if place > 0 else -far)
    return rounded(form, way, decimal_worth(decimal), s)


def read(form, way, text):
    """The OUTCOME of a NUMBER TEXT."""
    if not is_format(form):
        raise Wrong(0)
    if not is_way(way):
        raise Wrong(1)
    if not isinstance(text, str):
        raise Wrong(2)
    if text == "nan":
        return (("nan",), ())
    s, unsigned = parted_sign(text)
    if unsigned == "inf":
        return (("inf", s), ())
    return read_decimal(form, way, decimal_of(text))


def reads_back(form, decimal, number):
    """Whether a DECIMAL is read by "even" as just this NUMBER."""
    return read_decimal(form, "even", decimal)[0] == number


def show_own(form, number):
    """The OWN TEXT of a NUMBER."""
    base, digits, _, _ = form
    _, s, c, e = number
    text = digit_text(base, c).rjust(digits, "0")
    sign = "-" if s == 1 else ""
    return sign + text[0] + "." + text[1:] + "@" + str(e + digits - 1)


def read_own(form, text):
    """The NUMBER of which a text is the OWN TEXT."""
    if not is_format(form):
        raise Wrong(0)
    if not isinstance(text, str):
        raise Wrong(1)
    number = _own_number(form, text)
    # Other texts lead to a NUMBER, too, but only one of them is its OWN TEXT.
    if not is_number(form, number) or show_own(form, number) != text:
        raise NoText(text)
    return number


def _own_number(form, text):
    """The tuple that is the NUMBER with this OWN TEXT, if there is one; None if there is none for sure."""
    s, unsigned = parted_sign(text)
    digits, _, place = unsigned.partition("@")
    c, e = digits_in(form[0], digits.replace(".", "")), integer_in(place)
    if c is None or e is None:
        return None
    return ("num", s, c, e - form[1] + 1)
