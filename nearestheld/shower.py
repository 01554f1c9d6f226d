"""DECIMALS with as many digits, or places, as are asked for."""

from nearestheld.forms import integer_power
from nearestheld.fractions import nearest_integer, over, power_below, power_of, size_of
from nearestheld.worths import is_zero, worth


def told_digits(form, number, many, way):
    """The DECIMAL with so many digits to which a NUMBER is ROUNDED, and whether it stands for just its WORTH."""
    if is_zero(number):
        return ((number[1], 0, 0), True)
    e = power_below(10, size_of(worth(form, number))) - many + 1
    (s, c, _), is_exact = _told_at(form, number, e, way)
    if c == integer_power(10, many):
        return ((s, c // 10, e + 1), is_exact)
    return ((s, c, e), is_exact)


def told_places(form, number, places, way):
    """The DECIMAL with so many places to which a NUMBER is ROUNDED, and whether it stands for just its WORTH."""
    return _told_at(form, number, -places, way)


def enough_digits(form):
    """The least k for which 10 ** (k - 1) is above base ** digits."""
    return power_below(10, (integer_power(form[0], form[1]), 1)) + 2


def kept_digits(form):
    """The greatest k, from 0 on, for which 10 ** k is below base ** (digits - 1)."""
    return power_below(10, (integer_power(form[0], form[1] - 1) - 1, 1))


def _told_at(form, number, e, way):
    """The DECIMAL with this e to which a NUMBER is ROUNDED, and whether it stands for just its WORTH."""
    exact = over(worth(form, number), power_of(10, e))
    return ((number[1], abs(nearest_integer(way, exact)), e), exact[1] == 1)
