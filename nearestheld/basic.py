"""Sums, products and quotients of VALUES."""

from nearestheld.fractions import added, over, reduced
from nearestheld.rounding import rounded
from nearestheld.worths import is_zero, opposite, sign_of, worth, zero

# The OUTCOMES where a nan was handed in, and where one comes of what was none.
NAN_KEPT = (("nan",), ())
NAN_MADE = (("nan",), ("invalid",))


def add(form, way, x, y):
    """The OUTCOME of x + y."""
    if has_nan((x, y)):
        return NAN_KEPT
    if is_inf(x) and is_inf(y) and x != y:
        return NAN_MADE
    if is_inf(x):
        return (x, ())
    if is_inf(y):
        return (y, ())
    s = sign_of_no_sum(way, sign_of(x), sign_of(y))
    return rounded(form, way, added(worth(form, x), worth(form, y)), s)


def take(form, way, x, y):
    """The OUTCOME of x - y."""
    return add(form, way, x, opposite(y))


def times(form, way, x, y):
    """The OUTCOME of x * y."""
    if has_nan((x, y)):
        return NAN_KEPT
    if is_inf_by_zero(x, y):
        return NAN_MADE
    s = sign_of_both(x, y)
    if is_inf(x) or is_inf(y):
        return (("inf", s), ())
    one, other = worth(form, x), worth(form, y)
    return rounded(form, way, reduced(one[0] * other[0], one[1] * other[1]), s)


def by(form, way, x, y):
    """The OUTCOME of x / y."""
    if has_nan((x, y)):
        return NAN_KEPT
    if (is_inf(x) and is_inf(y)) or (is_zero(x) and is_zero(y)):
        return NAN_MADE
    s = sign_of_both(x, y)
    if is_inf(x):
        return (("inf", s), ())
    if is_inf(y):
        return (zero(form, s), ())
    if is_zero(y):
        return (("inf", s), ("by",))
    return rounded(form, way, over(worth(form, x), worth(form, y)), s)


def has_nan(values):
    """Whether a nan is among VALUES."""
    return any([value[0] == "nan" for value in values])


def is_inf(value):
    """Whether a VALUE is an inf."""
    return value[0] == "inf"


def is_inf_by_zero(x, y):
    """Whether one of two VALUES is an inf and the other one a zero, so that they have no product."""
    return (is_inf(x) and is_zero(y)) or (is_zero(x) and is_inf(y))


def sign_of_both(x, y):
    """The SIGN of a product or a quotient of two VALUES that are no nan."""
    return 0 if sign_of(x) == sign_of(y) else 1


def sign_of_no_sum(way, s, other):
    """The SIGN of a sum that is 0, of two parts with the SIGNS s and other."""
    if s == other:
        return s
    return 1 if way == "down" else 0
