"""The shortest DECIMAL that is read back as a NUMBER, and papers that there is none with fewer digits."""

from nearestheld.forms import is_integer, integer_power
from nearestheld.fractions import (
    added, ceiling_of, compared, floor_of, lessened, over, power_below, power_of, size_of, times,
)
from nearestheld.words import is_decimal, trimmed
from nearestheld.worths import is_zero, worth


def stretch_of(form, number):
    """The STRETCH of a NUMBER that is no zero: its two ends, and whether they are in it."""
    base, digits, low, _ = form
    _, _, c, e = number
    unsigned = size_of(worth(form, number))
    half = times(power_of(base, e), (1, 2))
    half_below = half
    # Below a power of the base the NUMBERS are nearer together, but for the TINY ones.
    if e > low and c == integer_power(base, digits - 1):
        half_below = times(half, (1, base))
    return (lessened(unsigned, half_below), added(unsigned, half), c % 2 == 0)


def shortest(form, number):
    """The shortest DECIMAL that is read back as a NUMBER."""
    if is_zero(number):
        return (number[1], 0, 0)
    stretch = stretch_of(form, number)
    unsigned = size_of(worth(form, number))
    e = _greatest_place(stretch)
    # Then 10 ** e is the only one with this e, and what has one digit less far on may be nearer.
    if compared(unsigned, power_of(10, e)) == -1:
        e = e - 1
    first, last = _multiples_in(stretch, e)
    # Of two that are equally near this is the lesser one.
    near = ceiling_of(lessened(over(unsigned, power_of(10, e)), (1, 2)))
    return trimmed((number[1], min(max(near, first), last), e))


def is_shortest(form, number, thing):
    """Whether thing, whatever it is, is the shortest DECIMAL."""
    return is_decimal(thing) and thing == shortest(form, number)


def fewer_paper(form, number):
    """The FEWER PAPER with the least e, of a NUMBER that is no zero."""
    e = _greatest_place(stretch_of(form, number)) + 1
    return (_multiple_below(form, number, e), e)


def is_fewer_paper(form, number, thing):
    """Whether thing, whatever it is, is a FEWER PAPER; a zero has none."""
    if not isinstance(thing, tuple) or len(thing) != 2 or is_zero(number):
        return False
    q, e = thing
    if not is_integer(q) or not is_integer(e):
        return False
    stretch = stretch_of(form, number)
    if e <= _greatest_place(stretch):
        return False
    # With an e above this one 10 ** e is above the STRETCH, so q has to be 0 for all of them.
    highest = power_below(10, stretch[1]) + 1
    return q == _multiple_below(form, number, min(e, highest))


def _multiple_below(form, number, e):
    """The greatest integer q for which q * 10 ** e is not above the size of a NUMBER."""
    return floor_of(over(size_of(worth(form, number)), power_of(10, e)))


def _multiples_in(stretch, e):
    """The first and the last integer q for which q * 10 ** e is in a STRETCH; last is less if none is."""
    low, high, are_in = stretch
    unit = power_of(10, e)
    start, end = over(low, unit), over(high, unit)
    if are_in:
        return (ceiling_of(start), floor_of(end))
    return (floor_of(start) + 1, ceiling_of(end) - 1)


def _greatest_place(stretch):
    """The greatest e for which a multiple of 10 ** e is in a STRETCH."""
    low, high, _ = stretch
    # With this e, 10 ** e is less than the STRETCH is wide, so there is a multiple in it for sure.
    e = power_below(10, lessened(high, low)) - 1
    while _has_multiple(stretch, e + 1):
        e = e + 1
    return e


def _has_multiple(stretch, e):
    """Whether a multiple of 10 ** e is in a STRETCH."""
    first, last = _multiples_in(stretch, e)
    return first <= last
