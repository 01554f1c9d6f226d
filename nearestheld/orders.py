"""The order of VALUES."""

from nearestheld.forms import place_of
from nearestheld.fractions import compared
from nearestheld.worths import is_finite, worth


def order_of(form, x, other, y):
    """-1, 0 or 1, as x of form is less than y of other, the same, or greater; None beside a nan."""
    if x[0] == "nan" or y[0] == "nan":
        return None
    if is_finite(x) and is_finite(y):
        return compared(worth(form, x), worth(other, y))
    return compared((_height(x), 1), (_height(y), 1))


def less(form, x, y):
    """Whether x is less than y, both of one format."""
    return order_of(form, x, form, y) == -1


def same(form, x, y):
    """Whether x is the same as y, both of one format."""
    return order_of(form, x, form, y) == 0


def in_order(form, values):
    """The list of VALUES in their order, a zero with the SIGN 1 ahead of the other, nans behind all."""
    return sorted(values, key=place_of)


def _height(value):
    """-1, 0 or 1, of an inf below all NUMBERS, a NUMBER, an inf above them."""
    if is_finite(value):
        return 0
    return 1 if value[1] == 0 else -1
