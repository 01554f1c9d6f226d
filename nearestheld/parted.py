"""What ROUNDED sums and products lack, as NUMBERS."""

from nearestheld.basic import is_inf
from nearestheld.forms import is_number
from nearestheld.fractions import lessened, times
from nearestheld.rounding import rounded
from nearestheld.sums import dot_of, exact_sum, sum_of
from nearestheld.worths import number_of, worth


def parted_sum(form, x, y):
    """The sum of two NUMBERS, ROUNDED, and what it lacks; None if the sum goes OVER."""
    return _with_rest(form, sum_of(form, "even", [x, y])[0], exact_sum(form, [x, y]))


def parted_product(form, x, y):
    """The product of two NUMBERS, ROUNDED, and what it lacks, None if no NUMBER; None if the product goes OVER."""
    return _with_rest(form, dot_of(form, "even", [(x, y)])[0], times(worth(form, x), worth(form, y)))


def parted_sum_of(form, values):
    """The PARTED SUM of NUMBERS, None if a sum goes OVER."""
    parts = []
    left = exact_sum(form, values)
    while left[0] != 0:
        part = rounded(form, "even", left, 0)[0]
        if is_inf(part):
            return None
        parts.append(part)
        left = lessened(left, worth(form, part))
    return tuple(parts)


def is_parted_sum(form, values, thing):
    """Whether thing, whatever it is, is the PARTED SUM of NUMBERS."""
    if not isinstance(thing, tuple) or not all([is_number(form, part) for part in thing]):
        return False
    return thing == parted_sum_of(form, values)


def _with_rest(form, value, exact):
    """A NUMBER and the one that it lacks to an exact worth, None if there is none; None of an inf."""
    if is_inf(value):
        return None
    return (value, number_of(form, lessened(exact, worth(form, value))))
