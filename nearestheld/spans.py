"""SPANS: what they HOLD, and how they lie to one another."""

from nearestheld.forms import place_of
from nearestheld.fractions import lessened
from nearestheld.rounding import rounded
from nearestheld.worths import is_finite, is_zero, worth, zero

NO_NUMBERS = ("none",)
BOTTOM = ("inf", 1)
TOP = ("inf", 0)


def span_of(form, low, high):
    """The LEAST SPAN that HOLDS two FRACTIONS, low not above high."""
    return ("span", low_end(form, low), high_end(form, high))


def whole_span():
    """The SPAN that HOLDS all real numbers."""
    return ("span", BOTTOM, TOP)


def holds(form, one, x):
    """Whether a SPAN HOLDS a FRACTION."""
    # The ends are VALUES, so one of them is beyond x just where it is beyond the VALUES next to x.
    return lies_in(form, span_of(form, x, x), one)


def lies_in(form, one, other):
    """Whether other HOLDS each real number that one HOLDS."""
    return meet(form, one, other) == one


def hull(form, one, other):
    """The LEAST SPAN in which both lie."""
    if one == NO_NUMBERS:
        return other
    if other == NO_NUMBERS:
        return one
    return ("span", min((one[1], other[1]), key=place_of), max((one[2], other[2]), key=place_of))


def meet(form, one, other):
    """The SPAN that HOLDS just the real numbers that both HOLD."""
    if one == NO_NUMBERS or other == NO_NUMBERS:
        return NO_NUMBERS
    low, high = max((one[1], other[1]), key=place_of), min((one[2], other[2]), key=place_of)
    return ("span", low, high) if place_of(low) <= place_of(high) else NO_NUMBERS


def width_of(form, one):
    """By how much the high end is above the low end, 0 of no numbers, None if an end is an inf."""
    if one == NO_NUMBERS:
        return (0, 1)
    return lessened(worth(form, one[2]), worth(form, one[1])) if has_numbers(one) else None


def span_into(form, other, one):
    """The LEAST SPAN of another FORMAT that HOLDS the real numbers that a SPAN of form HOLDS."""
    if one == NO_NUMBERS:
        return one
    _, low, high = one
    if is_finite(low):
        low = low_end(other, worth(form, low))
    if is_finite(high):
        high = high_end(other, worth(form, high))
    return ("span", low, high)


def side_of(form, one, other):
    """How the real numbers that one HOLDS lie to those of other: "less", "not" less, "open", or "none"."""
    if one == NO_NUMBERS or other == NO_NUMBERS:
        return "none"
    if place_of(one[2]) < place_of(other[1]):
        return "less"
    return "not" if place_of(one[1]) >= place_of(other[2]) else "open"


def has_numbers(one):
    """Whether both ends of a SPAN are NUMBERS."""
    return one != NO_NUMBERS and is_finite(one[1]) and is_finite(one[2])


def low_end(form, x):
    """The greatest VALUE that is not above a FRACTION."""
    return rounded(form, "down", x, 0)[0]


def high_end(form, x):
    """The least VALUE that is not below a FRACTION, a zero with the SIGN 0."""
    value = rounded(form, "up", x, 0)[0]
    return zero(form, 0) if is_zero(value) else value
