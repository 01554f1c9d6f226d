"""Operations over SPANS."""

from nearestheld.reaches import NO_HIGH, NO_LOW, products, reached, reciprocals
from nearestheld.rounding import rounded_root
from nearestheld.spans import BOTTOM, NO_NUMBERS, TOP, high_end, hull, low_end
from nearestheld.worths import is_finite, worth


def span_result(form, word, spans):
    """The LEAST SPAN that HOLDS all RESULTS, and whether each CHOICE has one."""
    if any([one == NO_NUMBERS for one in spans]):
        return (NO_NUMBERS, True)
    reaches = [_reach_of(form, one) for one in spans]
    if word == "root":
        return _root_result(form, reaches[0])
    if word == "by":
        return _quotient_result(form, reaches[0], reaches[1])
    return (_least_span(form, reached(word, reaches)), True)


def _reach_of(form, one):
    """The reach of what a SPAN HOLDS."""
    low = worth(form, one[1]) if is_finite(one[1]) else NO_LOW
    high = worth(form, one[2]) if is_finite(one[2]) else NO_HIGH
    return (low, high)


def _least_span(form, reach):
    """The LEAST SPAN of real numbers with a reach."""
    low, high = reach
    return ("span", BOTTOM if low == NO_LOW else low_end(form, low), TOP if high == NO_HIGH else high_end(form, high))


def _root_result(form, reach):
    """What span_result tells of roots."""
    low, high = reach
    if high[0] < 0:
        return (NO_NUMBERS, False)
    least = rounded_root(form, "down", low if low[0] > 0 else (0, 1))[0]
    greatest = TOP if high == NO_HIGH else rounded_root(form, "up", high)[0]
    return (("span", least, greatest), low[0] >= 0)


def _quotient_result(form, one, other):
    """What span_result tells of quotients."""
    span = NO_NUMBERS
    for part in reciprocals(other):
        span = hull(form, span, _least_span(form, products(one, part)))
    low, high = other
    return (span, low[0] > 0 or high[0] < 0)
