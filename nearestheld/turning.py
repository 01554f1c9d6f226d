"""VALUES of one format turned into another, and formats that lie in one another."""

from nearestheld.forms import integer_power
from nearestheld.fractions import nearest_integer
from nearestheld.rounding import rounded
from nearestheld.worths import is_finite, number_of, sign_of, worth


def turned(form, way, other, value):
    """The OUTCOME in other of a VALUE of form."""
    if not is_finite(value):
        return (value, ())
    return rounded(other, way, worth(form, value), sign_of(value))


def from_integer(form, way, n):
    """The OUTCOME of an integer."""
    return rounded(form, way, (n, 1), 0)


def integer_of(form, way, value):
    """The integer to which a VALUE is ROUNDED, and FLAGS."""
    if not is_finite(value):
        return (None, ("invalid",))
    exact = worth(form, value)
    return (nearest_integer(way, exact), () if exact[1] == 1 else ("inexact",))


def is_within(form, other):
    """Whether each NUMBER of form has the WORTH of one of other."""
    return lost_number(form, other) is None


def lost_number(form, other):
    """A NUMBER of form whose WORTH no NUMBER of other has, None if there is none."""
    base, digits, low, high = form
    greatest = integer_power(base, digits) - 1
    for e in range(low, high + 1):
        # If other has both, it has all with this e. For let d be the least integer for which d * base ** e
        # is a multiple of what the last digit counts in other at the lesser one: d divides both c, so it
        # is 1; and what the last digit counts in other at those that are less divides this.
        for c in (greatest, greatest - 1):
            number = ("num", 0, c, e)
            if number_of(other, worth(form, number)) is None:
                return number
    return None
