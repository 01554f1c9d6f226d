"""VALUES times a power of the base, the lesser and the greater one of two."""

from nearestheld.basic import NAN_KEPT, has_nan, is_inf
from nearestheld.forms import place_of
from nearestheld.fractions import power_of, times
from nearestheld.rounding import rounded
from nearestheld.worths import sign_of, worth


def scale(form, way, x, n):
    """The OUTCOME of x times base ** n."""
    if has_nan((x,)):
        return NAN_KEPT
    if is_inf(x):
        return (x, ())
    return rounded(form, way, times(worth(form, x), power_of(form[0], n)), sign_of(x))


def least(form, x, y):
    """The OUTCOME that is the lesser one of x and y."""
    if has_nan((x, y)):
        return NAN_KEPT
    return (min((x, y), key=place_of), ())


def greatest(form, x, y):
    """The OUTCOME that is the greater one of x and y."""
    if has_nan((x, y)):
        return NAN_KEPT
    return (max((x, y), key=place_of), ())
