"""Roots of VALUES, and products to which one is added."""

from nearestheld.basic import (
    NAN_KEPT, NAN_MADE, add, has_nan, is_inf, is_inf_by_zero, sign_of_both, sign_of_no_sum,
)
from nearestheld.fractions import added, times
from nearestheld.rounding import rounded, rounded_root
from nearestheld.worths import is_zero, sign_of, worth


def root(form, way, x):
    """The OUTCOME of the square root of x."""
    if has_nan((x,)):
        return NAN_KEPT
    if is_zero(x):
        return (x, ())
    if sign_of(x) == 1:
        return NAN_MADE
    if is_inf(x):
        return (x, ())
    return rounded_root(form, way, worth(form, x))


def fused(form, way, x, y, z):
    """The OUTCOME of x * y + z, ROUNDED once."""
    if has_nan((x, y, z)):
        return NAN_KEPT
    if is_inf_by_zero(x, y):
        return NAN_MADE
    s = sign_of_both(x, y)
    if is_inf(x) or is_inf(y):
        return add(form, way, ("inf", s), z)
    if is_inf(z):
        return (z, ())
    exact = added(times(worth(form, x), worth(form, y)), worth(form, z))
    return rounded(form, way, exact, sign_of_no_sum(way, s, sign_of(z)))
