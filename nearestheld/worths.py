"""VALUES and what they are worth."""

from nearestheld.forms import integer_power
from nearestheld.fractions import power_below, power_of, sign_of_fraction, size_of, times


def worth(form, number):
    """The WORTH of a NUMBER, a FRACTION."""
    _, s, c, e = number
    return times((-c if s == 1 else c, 1), power_of(form[0], e))


def number_of(form, fraction):
    """The NUMBER with just this WORTH, None if there is none; of 0 the zero with the SIGN 0."""
    if fraction[0] == 0:
        return zero(form, 0)
    base, digits, low, high = form
    unsigned = size_of(fraction)
    # With this e all digits are used, or e is low: no other NUMBER can have the WORTH.
    e = max(low, power_below(base, unsigned) - digits + 1)
    c, d = times(unsigned, power_of(base, -e))
    if e > high or d != 1:
        return None
    return ("num", sign_of_fraction(fraction), c, e)


def zero(form, s):
    """The zero with a SIGN."""
    return ("num", s, 0, form[2])


def is_finite(value):
    """Whether a VALUE is a NUMBER."""
    return value[0] == "num"


def is_zero(value):
    """Whether a VALUE is a zero."""
    return is_finite(value) and value[2] == 0


def is_tiny(form, value):
    """Whether a VALUE is a NUMBER whose size is TINY."""
    if not is_finite(value) or value[2] == 0:
        return False
    # Fewer than all digits are there only where e is low, and only below NORMAL.
    return value[2] < integer_power(form[0], form[1] - 1)


def sign_of(value):
    """The SIGN of a VALUE, None of a nan."""
    return None if value[0] == "nan" else value[1]


def opposite(value):
    """The VALUE with the other SIGN, a nan as it is."""
    if value[0] == "nan":
        return value
    return (value[0], 1 - value[1]) + value[2:]


def size(value):
    """The VALUE with the SIGN 0, a nan as it is."""
    if value[0] == "nan":
        return value
    return (value[0], 0) + value[2:]
