"""What a format has: its ends, its NUMBERS, and the RANKS of its VALUES."""

from nearestheld.errors import TooMany
from nearestheld.forms import integer_power
from nearestheld.fractions import power_of
from nearestheld.worths import is_zero, opposite, zero

MOST_NUMBERS = 4000


def greatest_number(form):
    """The NUMBER GREATEST."""
    base, digits, _, high = form
    return ("num", 0, integer_power(base, digits) - 1, high)


def least_normal(form):
    """The NUMBER with the WORTH NORMAL."""
    base, digits, low, _ = form
    return ("num", 0, integer_power(base, digits - 1), low)


def least_tiny(form):
    """The NUMBER with the least WORTH above 0."""
    return ("num", 0, 1, form[2])


def numbers_many(form):
    """How many NUMBERS there are, both zeros being counted."""
    return 2 * _sizes_many(form)


def unit_of(form, number):
    """What the last digit of a NUMBER counts."""
    return power_of(form[0], number[3])


def numbers_of(form):
    """The list of all NUMBERS in their order, the zero with the SIGN 1 ahead of the other one."""
    if numbers_many(form) > MOST_NUMBERS:
        raise TooMany(MOST_NUMBERS)
    unsigned = [value_at(form, rank) for rank in range(_sizes_many(form))]
    return [opposite(number) for number in reversed(unsigned)] + unsigned


def rank_of(form, value):
    """The RANK of a VALUE that is no nan."""
    if value[0] == "inf":
        rank = _sizes_many(form)
    else:
        rank = value[2] + (value[3] - form[2]) * _full_many(form)
    return -rank if value[1] == 1 else rank


def value_at(form, rank):
    """The VALUE with a RANK, of 0 the zero with the SIGN 0; None if there is none."""
    value = _unsigned_at(form, abs(rank))
    if rank < 0 and value is not None:
        return opposite(value)
    return value


def next_up(form, value):
    """The VALUE with the next RANK; a nan, and the inf above all, as it is."""
    return _stepped(form, value, 1)


def next_down(form, value):
    """The VALUE with the RANK ahead; a nan, and the inf below all, as it is."""
    return _stepped(form, value, -1)


def steps_between(form, x, y):
    """The RANK of y less that of x."""
    return rank_of(form, y) - rank_of(form, x)


def _full_many(form):
    """How many NUMBERS with the SIGN 0 and with all digits have the same e."""
    return (form[0] - 1) * integer_power(form[0], form[1] - 1)


def _sizes_many(form):
    """How many NUMBERS have the SIGN 0."""
    return rank_of(form, greatest_number(form)) + 1


def _unsigned_at(form, rank):
    """The VALUE with a RANK from 0 on, None if there is none."""
    base, digits, low, high = form
    full, full_many = integer_power(base, digits - 1), _full_many(form)
    # The NUMBERS with the lowest e have all RANKS up to those with all digits.
    risen = max(0, (rank - full) // full_many)
    c, e = rank - risen * full_many, low + risen
    if e <= high:
        return ("num", 0, c, e)
    # The inf stands where the next NUMBER would, if there were a greater e.
    return ("inf", 0) if e == high + 1 and c == full else None


def _stepped(form, value, step):
    """The VALUE whose RANK is by a step beyond that of value; a zero has the SIGN of value."""
    if value[0] == "nan":
        return value
    found = value_at(form, rank_of(form, value) + step)
    if found is None:
        return value
    return zero(form, value[1]) if is_zero(found) else found
