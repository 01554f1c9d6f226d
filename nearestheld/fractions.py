"""FRACTIONS: exact reckoning, and the integers that are near to them."""

from math import gcd

from nearestheld.forms import integer_power


def reduced(n, d):
    """The FRACTION that stands for n / d, of integers, d not 0."""
    if n == 0:
        return (0, 1)
    # The bounds of roots have thousands of twos in d, which would keep gcd and // busy for long.
    ahead, behind = _twos_in(n), _twos_in(d)
    twos = min(ahead, behind)
    n, d = n >> twos, d >> twos
    common = gcd(n, d >> (behind - twos))
    if d < 0:
        common = -common
    return (n // common, d // common)


def added(one, other):
    """The sum."""
    # Only what both divisors have in common can be left to reduce, which is faster than to reduce all.
    common = gcd(one[1], other[1])
    left, right = one[1] // common, other[1] // common
    n, rest = reduced(one[0] * right + other[0] * left, common)
    return (n, left * right * rest)


def lessened(one, other):
    """The difference."""
    return added(one, (-other[0], other[1]))


def times(one, other):
    """The product."""
    # Each n is reduced by the other d ahead, which is faster than to reduce the product.
    first, right = reduced(one[0], other[1])
    second, left = reduced(other[0], one[1])
    return (first * second, left * right)


def over(one, other):
    """The quotient, other not being 0."""
    n, d = other
    return times(one, (-d, -n) if n < 0 else (d, n))


def total_of(fractions):
    """The sum of all in a list or tuple."""
    total = (0, 1)
    for fraction in fractions:
        total = added(total, fraction)
    return total


def size_of(one):
    """The same without its sign."""
    return (abs(one[0]), one[1])


def power_of(base, e):
    """base ** e, of an integer base from 1 on and any integer e."""
    if e < 0:
        return (1, integer_power(base, -e))
    return (integer_power(base, e), 1)


def compared(one, other):
    """-1, 0 or 1, as one is less than other, the same, or greater."""
    left, right = one[0] * other[1], other[0] * one[1]
    if left < right:
        return -1
    return 1 if left > right else 0


def floor_of(one):
    """The greatest integer that is not above."""
    return one[0] // one[1]


def ceiling_of(one):
    """The least integer that is not below."""
    return -(-one[0] // one[1])


def nearest_integer(way, one):
    """The integer to which a FRACTION is ROUNDED."""
    s = sign_of_fraction(one)
    size, left = divmod(abs(one[0]), one[1])
    if is_taken_outward(way, s, size, part_of(left, one[1])):
        size = size + 1
    return -size if s == 1 else size


def sign_of_fraction(one):
    """1 if it is below 0, otherwise 0."""
    return 1 if one[0] < 0 else 0


def part_of(left, whole):
    """Where left, from 0 on and below whole, stands: 0 at 0, 2 half-way, 1 ahead of that, 3 behind."""
    if left == 0:
        return 0
    if 2 * left < whole:
        return 1
    return 2 if 2 * left == whole else 3


def is_taken_outward(way, s, c, part):
    """Whether a number with the SIGN s, whose size is c and a part of one more, is ROUNDED to c + 1.

    The part is told as part_of tells it.
    """
    if part == 0 or way == "zero":
        return False
    if way == "up":
        return s == 0
    if way == "down":
        return s == 1
    if part == 2:
        return way == "away" or c % 2 == 1
    return part == 3


def power_below(base, one):
    """The greatest k for which base ** k is not above a FRACTION above 0; base is from 2 on."""
    n, d = one
    if n >= d:
        return _power_within(base, n // d)
    # base ** m is at least d / n just where, being an integer, it is above (d - 1) // n.
    return -1 - _power_within(base, (d - 1) // n)


def _power_within(base, whole):
    """The greatest k for which base ** k is not above an integer from 1 on."""
    squares = []
    power = base
    while power <= whole:
        squares.append(power)
        power = power * power
    k, left = 0, whole
    for square in reversed(squares):
        k = 2 * k
        if square <= left:
            k = k + 1
            left = left // square
    return k


def _twos_in(n):
    """The greatest k for which an integer that is not 0 is a multiple of 2 ** k."""
    return (n & -n).bit_length() - 1
