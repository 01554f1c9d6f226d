"""Sums of any many VALUES, and of products of them, that are ROUNDED once."""

from nearestheld.basic import NAN_KEPT, NAN_MADE, has_nan, is_inf, is_inf_by_zero, sign_of_both, sign_of_no_sum
from nearestheld.forms import integer_power
from nearestheld.fractions import power_of, times
from nearestheld.rounding import rounded


def sum_of(form, way, values):
    """The OUTCOME of the sum of VALUES."""
    return counted_sum_of(form, way, [(value, 1) for value in values])


def dot_of(form, way, pairs):
    """The OUTCOME of the sum of the products of pairs of VALUES."""
    if any([has_nan(pair) for pair in pairs]):
        return NAN_KEPT
    if any([is_inf_by_zero(x, y) for x, y in pairs]):
        return NAN_MADE
    infs = [("inf", sign_of_both(x, y)) for x, y in pairs if is_inf(x) or is_inf(y)]
    if len(infs) > 0:
        return _sum_of_infs(infs)
    units = sum([_units_of(form, x) * _units_of(form, y) for x, y in pairs])
    exact = times((units, 1), power_of(form[0], 2 * form[2]))
    return rounded(form, way, exact, _sign_of_none(way, [sign_of_both(x, y) for x, y in pairs]))


def exact_sum(form, numbers):
    """The exact sum of NUMBERS, a FRACTION."""
    return _counted_sum(form, [(number, 1) for number in numbers])


def counted_sum_of(form, way, counted):
    """The OUTCOME of the sum of VALUES, each of them in a tuple with how often it is in the sum."""
    values = [value for value, _ in counted]
    if has_nan(values):
        return NAN_KEPT
    infs = [value for value in values if is_inf(value)]
    if len(infs) > 0:
        return _sum_of_infs(infs)
    return rounded(form, way, _counted_sum(form, counted), _sign_of_none(way, [value[1] for value in values]))


def _sum_of_infs(infs):
    """The OUTCOME of a sum in which these infs are, at least one."""
    if any([inf != infs[0] for inf in infs]):
        return NAN_MADE
    return (infs[0], ())


def _sign_of_none(way, signs):
    """The SIGN of a sum that is 0, of parts with these SIGNS."""
    return sign_of_no_sum(way, min(signs, default=0), max(signs, default=0))


def _counted_sum(form, counted):
    """The exact sum of NUMBERS, each of them in a tuple with how often it is in the sum."""
    units = sum([many * _units_of(form, number) for number, many in counted])
    return times((units, 1), power_of(form[0], form[2]))


def _units_of(form, number):
    """The WORTH of a NUMBER in units of base ** low, an integer."""
    _, s, c, e = number
    units = c * integer_power(form[0], e - form[2])
    return -units if s == 1 else units
