"""What a quotient leaves over, and whole numbers."""

from nearestheld.basic import NAN_KEPT, NAN_MADE, has_nan, is_inf
from nearestheld.fractions import lessened, nearest_integer, over, times
from nearestheld.rounding import joined, rounded
from nearestheld.worths import is_zero, number_of, sign_of, worth, zero


def rest(form, x, y):
    """The OUTCOME of x - n * y, n being the integer nearest to x / y, the even one of two."""
    return _remaining(form, "even", x, y)


def left_over(form, x, y):
    """The OUTCOME of x - n * y, n being x / y without what stands behind its point."""
    return _remaining(form, "zero", x, y)


def whole(form, way, x):
    """The OUTCOME of the integer to which x is rounded."""
    if has_nan((x,)):
        return NAN_KEPT
    if is_inf(x):
        return (x, ())
    exact = worth(form, x)
    near = (nearest_integer(way, exact), 1)
    told = rounded(form, way, near, sign_of(x))
    if near == exact:
        return told
    return (told[0], joined((told, (x, ("inexact",)))))


def _remaining(form, way, x, y):
    """The OUTCOME of x - n * y, n being x / y made an integer by a WAY."""
    if has_nan((x, y)):
        return NAN_KEPT
    if is_inf(x) or is_zero(y):
        return NAN_MADE
    if is_inf(y):
        return (x, ())
    dividend, divisor = worth(form, x), worth(form, y)
    n = nearest_integer(way, over(dividend, divisor))
    left = lessened(dividend, times((n, 1), divisor))
    if left[0] == 0:
        return (zero(form, sign_of(x)), ())
    return (number_of(form, left), ())
