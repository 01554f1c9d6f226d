"""Real numbers ROUNDED to NUMBERS.

In this file a spot is where a size above 0 stands: a tuple (e, c, part). The greatest NUMBER that
is not above the size, whatever high is, has this c and e; part tells, as part_of does, how far the
size is from there on the way to the next NUMBER.
"""

from math import isqrt

from nearestheld.forms import FLAG_WORDS, integer_power, is_outcome
from nearestheld.fractions import (
    is_taken_outward, part_of, power_below, power_of, sign_of_fraction, size_of, times,
)
from nearestheld.worths import zero


def below(form, x):
    """The NUMBER next to x that is not above it; its e may be above high."""
    return _unbounded(form, "down", x)


def above(form, x):
    """The NUMBER next to x that is not below it; its e may be above high."""
    return _unbounded(form, "up", x)


def rounded(form, way, x, s):
    """The OUTCOME of a FRACTION, s being the SIGN of a zero that comes of x = 0."""
    if x[0] == 0:
        return (zero(form, s), ())
    return _outcome(form, way, sign_of_fraction(x), _spot(form, size_of(x)))


def rounded_root(form, way, x):
    """The OUTCOME of the square root of a FRACTION, x not below 0."""
    if x[0] == 0:
        return (zero(form, 0), ())
    return _outcome(form, way, 0, _root_spot(form, x))


def is_rounded(form, way, x, s, thing):
    """Whether thing, whatever it is, is the OUTCOME that rounded tells."""
    # A truth is equal to an integer in Python, so the form of thing is looked at first.
    return is_outcome(form, thing) and thing == rounded(form, way, x, s)


def joined(outcomes):
    """The FLAGS that have each word of any second item."""
    return tuple([word for word in FLAG_WORDS if any([word in outcome[1] for outcome in outcomes])])


def unit_at(form, x):
    """The distance of the NUMBERS next to x, which is not below 0."""
    return power_of(form[0], below(form, x)[3])


def most_error(form, way, x):
    """How far at most a real number of at most the size x is from what it is ROUNDED to.

    None if one of them goes OVER.
    """
    # What is ROUNDED never falls when x grows, so x and its opposite tell it for all between.
    for end in (x, (-x[0], x[1])):
        if "over" in rounded(form, way, end, 0)[1]:
            return None
    unit = unit_at(form, x)
    if way in ("even", "away"):
        return times(unit, (1, 2))
    return unit


def _spot(form, unsigned):
    """The spot of a FRACTION above 0."""
    base, digits, low, _ = form
    e = max(low, power_below(base, unsigned) - digits + 1)
    up, down = power_of(base, -e)
    whole = unsigned[1] * down
    c, left = divmod(unsigned[0] * up, whole)
    return (e, c, part_of(left, whole))


def _root_spot(form, x):
    """The spot of the square root of a FRACTION above 0."""
    base, digits, low, _ = form
    e = max(low, power_below(base, x) // 2 - digits + 1)
    n, d = times(x, power_of(base, -2 * e))
    c = isqrt(n // d)
    return (e, c, _root_part(c, n, d))


def _root_part(c, n, d):
    """Where, as part_of tells it, the square root of n / d stands on the way from c to c + 1."""
    if c * c * d == n:
        return 0
    half_way = (2 * c + 1) * (2 * c + 1) * d
    if 4 * n < half_way:
        return 1
    return 2 if 4 * n == half_way else 3


def _unbounded(form, way, x):
    """The NUMBER to which x is ROUNDED if no e is too high; of 0 the zero with the SIGN 0."""
    if x[0] == 0:
        return zero(form, 0)
    return _nearest(form, way, sign_of_fraction(x), _spot(form, size_of(x)))


def _nearest(form, way, s, spot):
    """The NUMBER to which what stands at a spot, with the SIGN s, is ROUNDED if no e is too high."""
    base, digits, _, _ = form
    e, c, part = spot
    if not is_taken_outward(way, s, c, part):
        return ("num", s, c, e)
    if c + 1 == integer_power(base, digits):
        return ("num", s, integer_power(base, digits - 1), e + 1)
    return ("num", s, c + 1, e)


def _outcome(form, way, s, spot):
    """The OUTCOME of what stands at a spot, with the SIGN s."""
    base, digits, _, high = form
    number = _nearest(form, way, s, spot)
    if number[3] > high:
        return (_too_great(form, way, s), ("inexact", "over"))
    _, c, part = spot
    if part == 0:
        return (number, ())
    # "tiny" hangs on what was there ahead of rounding, so on the c below it.
    if c < integer_power(base, digits - 1):
        return (number, ("inexact", "tiny"))
    return (number, ("inexact",))


def _too_great(form, way, s):
    """The VALUE of what goes OVER with the SIGN s."""
    base, digits, _, high = form
    if way in ("even", "away") or (way == "up" and s == 0) or (way == "down" and s == 1):
        return ("inf", s)
    return ("num", s, integer_power(base, digits) - 1, high)
