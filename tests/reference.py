"""What the document tells, looked up among the NUMBERS of a format, with Python's own fractions.

It shares nothing with the program: the NUMBERS are listed, and the least, the greatest and the
nearest ones are found by going through the list.
"""

from bisect import bisect_left, bisect_right
from fractions import Fraction
from functools import lru_cache
from math import ceil, floor
from random import Random

WAYS = ("even", "away", "up", "down", "zero")
SMALL_FORMATS = (
    (2, 3, -2, 1), (2, 2, 0, 0), (2, 2, -3, 3), (4, 2, -1, 1), (6, 2, -2, 0), (10, 2, -1, 0),
    (10, 2, 1, 2), (10, 2, -4, -3), (36, 2, -1, -1), (2, 4, -6, -2),
)
LARGE_FORMATS = ((36, 120, -1200, 1200), (2, 53, -1074, 971), (10, 34, -1200, 1200))
LARGEST_FORMATS = tuple((base, 120, -1200, 1200) for base in (2, 4, 6, 10, 20, 36))


def fraction_of(pair):
    return Fraction(pair[0], pair[1])


def pair_of(fraction):
    return (fraction.numerator, fraction.denominator)


@lru_cache(maxsize=10 ** 5)
def worth_of(form, number):
    size = number[2] * Fraction(form[0]) ** number[3]
    return -size if number[1] == 1 else size


@lru_cache(maxsize=None)
def sizes_to(form, top):
    """All (size, c, e) with e from low to top, ascending, 0 with them."""
    base, digits, low, _ = form
    found = [(c * Fraction(base) ** low, c, low) for c in range(base ** digits)]
    for e in range(low + 1, top + 1):
        found += [(c * Fraction(base) ** e, c, e) for c in range(base ** (digits - 1), base ** digits)]
    return found


@lru_cache(maxsize=None)
def bare_sizes_to(form, top):
    return [size for size, _, _ in sizes_to(form, top)]


def numbers_of(form):
    """All NUMBERS of a format, both zeros with them."""
    return [("num", s, c, e) for s in (0, 1) for _, c, e in sizes_to(form, form[3])]


def values_of(form):
    return numbers_of(form) + [("inf", 0), ("inf", 1), ("nan",)]


def numbers_in_order(form):
    """All NUMBERS, ascending, the zero with the SIGN 1 ahead of the other one."""
    unsigned = [("num", 0, c, e) for _, c, e in sizes_to(form, form[3])]
    return [("num", 1) + number[2:] for number in unsigned[::-1]] + unsigned


def some_of(things, many):
    """About so many of a list, evenly, its first and last ones among them."""
    things = list(things)
    if len(things) <= many:
        return things
    step = len(things) // many + 1
    return things[:3] + things[3:-3:step] + things[-3:]


@lru_cache(maxsize=None)
def greatest_size(form):
    return (form[0] ** form[1] - 1) * Fraction(form[0]) ** form[3]


@lru_cache(maxsize=None)
def normal_size(form):
    return Fraction(form[0]) ** (form[2] + form[1] - 1)


@lru_cache(maxsize=10 ** 4)
def neighbours(form, x):
    """The NUMBERS next to x, not above it and not below it, whatever high is."""
    size, top = abs(x), form[2]
    while bare_sizes_to(form, top)[-1] < size:
        top += 1
    sizes = sizes_to(form, top)
    at = bisect_right(bare_sizes_to(form, top), size) - 1
    inner = sizes[at]
    outer = inner if inner[0] == size else sizes[at + 1]
    if x < 0:
        return ("num", 1) + outer[1:], ("num", 1) + inner[1:]
    return ("num", 0) + inner[1:], ("num", 0) + outer[1:]


def unbounded(form, way, x):
    """The NUMBER to which x, not 0, is ROUNDED if high does not count."""
    low, high = neighbours(form, x)
    inner, outer = (high, low) if x < 0 else (low, high)
    if way in ("up", "down", "zero"):
        return {"up": high, "down": low, "zero": inner}[way]
    to_inner, to_outer = abs(x - worth_of(form, inner)), abs(worth_of(form, outer) - x)
    if to_inner != to_outer:
        return inner if to_inner < to_outer else outer
    if inner == outer or way == "away":
        return outer
    return inner if inner[2] % 2 == 0 else outer


def outcome(form, way, x, s):
    """The OUTCOME of a Fraction x in a small FORMAT."""
    return outcome_of(form, way, x, s, unbounded)


def outcome_in_large(form, way, x, s):
    """The OUTCOME of a Fraction x in a FORMAT whose NUMBERS cannot be listed."""
    return outcome_of(form, way, x, s, unbounded_in_large)


def unbounded_in_large(form, way, x):
    """As unbounded, but reckoned: the neighbours have the least e at which c has not too many digits."""
    base, digits, low, _ = form
    size = abs(x)
    top = low + 4 * max(size.numerator.bit_length(), size.denominator.bit_length()) + 4 * abs(low) + 4
    e = bisect_left(range(low, top), True, key=lambda e: size < Fraction(base) ** (digits + e)) + low
    unit = Fraction(base) ** e
    c = size // unit
    upward = way == ("up" if x > 0 else "down")
    if way in ("even", "away"):
        over_half = size - c * unit - unit / 2
        upward = over_half > 0 or (over_half == 0 and (way == "away" or c % 2 == 1))
    if upward and size != c * unit:
        c += 1
    s = 1 if x < 0 else 0
    return ("num", s, base ** (digits - 1), e + 1) if c == base ** digits else ("num", s, c, e)


def outcome_of(form, way, x, s, unbounded):
    if x == 0:
        return (("num", s, 0, form[2]), ())
    number, flags = unbounded(form, way, x), []
    if worth_of(form, number) != x:
        flags.append("inexact")
        if abs(x) < normal_size(form):
            flags.append("tiny")
    if abs(worth_of(form, number)) <= greatest_size(form):
        return (number, tuple(flags))
    sign = 1 if x < 0 else 0
    if way in ("even", "away") or way == ("up" if x > 0 else "down"):
        return (("inf", sign), ("inexact", "over"))
    return (("num", sign, form[0] ** form[1] - 1, form[3]), ("inexact", "over"))


def rounded_integer(way, x):
    """The integer to which a Fraction is rounded."""
    low, high = floor(x), ceil(x)
    inner, outer = (high, low) if x < 0 else (low, high)
    if way in ("up", "down", "zero"):
        return {"up": high, "down": low, "zero": inner}[way]
    if abs(x - inner) == abs(x - outer):
        return outer if way == "away" or inner % 2 == 1 else inner
    return inner if abs(x - inner) < abs(x - outer) else outer


def edges_of(form):
    """NUMBERS with the SIGN 0 at all edges of a format."""
    base, digits, low, high = form
    top, full = base ** digits - 1, base ** (digits - 1)
    return [("num", 0, c, e) for c, e in (
        (1, low), (2, low), (full - 1, low), (full, low), (full + 1, low), (top, low), (full, high), (top, high),
        (top - 1, high), (full, min(low + 1, high)), (top, max(high - 1, low)),
    )]


def interesting_fractions(form):
    """Fractions on all NUMBERS from 0 on, half-way between them, a little off both, and far beyond."""
    sizes = bare_sizes_to(form, form[3] + 1)
    found = []
    for one, other in zip(sizes, sizes[1:]):
        little = (other - one) / 1000
        middle = (one + other) / 2
        found += [one, one + little, middle - little, middle, middle + little, other - little]
    found += [sizes[1] / 10 ** 30, sizes[-1] * 10 ** 6 + Fraction(1, 7)]
    return sorted(found)


def some_numbers(form, many, seed):
    """So many NUMBERS of a FORMAT, of all sizes and of sizes that are near together, always the same ones."""
    base, digits, low, high = form
    random = Random(seed)
    full, beyond = base ** (digits - 1), base ** digits
    found = []
    while len(found) < many:
        e = random.choice((low, high, random.randint(low, high), max(low, min(high, random.randint(-digits, 2)))))
        c = random.choice((full, beyond - 1, random.randrange(full, beyond), beyond // 2, full * base // 2))
        if e == low:
            c = random.choice((c, 0, 1, full - 1, random.randrange(full), random.randrange(min(full, 100))))
        found.append(("num", random.randrange(2), c, e))
    return found


def decimal_fraction(decimal):
    """The Fraction for which a DECIMAL stands."""
    s, c, e = decimal
    return (-c if s else c) * Fraction(10) ** e


def stretch(form, number):
    """The ends, Fractions, of what is by "even" rounded to the size of a NUMBER, and whether they are in it."""
    sizes = bare_sizes_to(form, form[3] + 1)
    at = bisect_left(sizes, abs(worth_of(form, number)))
    ends = [(sizes[other] + sizes[at]) / 2 for other in (at - 1, at + 1)]
    are_in = [outcome(form, "even", end, 0)[0] == ("num", 0) + number[2:] for end in ends]
    assert are_in[0] == are_in[1]
    return ends[0], ends[1], are_in[0]


def is_in(stretched, x):
    low, high, are_in = stretched
    return low < x < high or (are_in and x in (low, high))


def place_of(x):
    """The greatest e for which 10 ** e is not above a Fraction above 0."""
    e = len(str(x.numerator)) - len(str(x.denominator)) - 1
    while Fraction(10) ** (e + 1) <= x:
        e += 1
    return e


def shortest_by_going_through(form, number):
    """The shortest DECIMAL of a NUMBER that is no zero, found by going through those of one digit, of two .."""
    stretched = stretch(form, number)
    size = abs(worth_of(form, number))
    many = 0
    while True:
        many += 1
        found = []
        for e in range(place_of(stretched[0]) - many, place_of(stretched[1]) + 2):
            unit = Fraction(10) ** e
            first, last = max(10 ** (many - 1), int(stretched[0] / unit)), min(10 ** many - 1, int(stretched[1] / unit))
            found += [(abs(c * unit - size), c * unit, c, e) for c in range(first, last + 1)
                      if c % 10 and is_in(stretched, c * unit)]
        if found:
            return (number[1],) + min(found)[2:]
