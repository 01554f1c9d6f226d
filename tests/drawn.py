"""Drawn PROGRAMS, NUMBERS, SPANS and BOXES, always the same ones of a seed; what PROGRAMS mean, by Python's own fractions."""

from bisect import bisect_left, bisect_right
from decimal import Context, Decimal
from fractions import Fraction
from functools import lru_cache
from math import isqrt

from nearestheld import basic, rests, roots, scaling, worths
from reference import numbers_in_order, pair_of, some_numbers, some_of, worth_of

PARTS = {"add": 2, "take": 2, "times": 2, "by": 2, "fused": 3, "root": 1, "opposite": 1, "size": 1, "least": 2,
         "greatest": 2, "if": 4}
PLAIN_WORDS = tuple([word for word in PARTS if word != "root"])
SPAN_WORDS = tuple([word for word in PARTS if word != "if"])
BOTTOM, TOP, NO_NUMBERS = ("inf", 1), ("inf", 0), ("none",)
WHOLE = ("span", BOTTOM, TOP)
EXACT = Context(prec=700)
# Where Decimals are so near to one another, they do not tell which way a step goes.
CLOSE = Decimal("1e-300")


class Close(Exception):
    """Two real numbers that are not told by Fractions alone are too near to one another."""


def drawn_fraction(random, most=12):
    return pair_of(Fraction(random.randint(-most, most), random.randint(1, most)))


def drawn_program(random, words, many, length):
    """A PROGRAM with so many inputs and so many steps, of these words; its first steps are all its inputs."""
    steps = [("input", at) for at in range(many)]
    while len(steps) < length:
        word = random.choice(words + ("told",)) if steps else "told"
        if word == "told":
            steps.append(("told", drawn_fraction(random)))
        else:
            steps.append((word,) + tuple([random.randrange(max(0, len(steps) - 8), len(steps)) for _ in range(PARTS[word])]))
    return (many, tuple(steps))


def each_word_program(words):
    """For each word PROGRAMS of three inputs whose RESULT is just one step with it, in all orders of the inputs."""
    found = []
    for word in words:
        for turn in range(3):
            parts = tuple([(turn + at) % 3 for at in range(PARTS[word])])
            found.append((3, (("input", 0), ("input", 1), ("input", 2), (word,) + parts)))
    return found


def true_worth_of(program, inputs, at=-1, known=None):
    """The TRUE worth of a step, of inputs that are Fractions; a Decimal of 700 digits where roots are no Fractions."""
    known = {} if known is None else known
    if at not in known:
        known[at] = worth_of_step(program[1][at], inputs, lambda part: true_worth_of(program, inputs, part, known))
    return known[at]


def worth_of_step(step, inputs, asked):
    word, *parts = step
    if word == "input":
        return inputs[parts[0]]
    if word == "told":
        return Fraction(*parts[0])
    if word == "if":
        a, b = asked(parts[0]), asked(parts[1])
        if a is None or b is None:
            return None
        return asked(parts[2] if is_below(a, b) else parts[3])
    worths = [asked(part) for part in parts]
    return None if None in worths else made_of(word, worths)


def is_below(x, y):
    """Whether x is less than y, each a Fraction or a Decimal."""
    if not isinstance(x, Decimal) and not isinstance(y, Decimal):
        return x < y
    difference = EXACT.subtract(decimal_of(y), decimal_of(x))
    if difference.copy_abs() < CLOSE:
        raise Close
    return difference > 0


def decimal_of(x):
    return x if isinstance(x, Decimal) else EXACT.divide(Decimal(x.numerator), Decimal(x.denominator))


def made_of(word, worths):
    """What an operation makes of real numbers, None if that is nothing."""
    if word == "root":
        return root_of(worths[0])
    if word == "by" and worths[1] == Fraction(0) and not isinstance(worths[1], Decimal):
        return None
    if any(isinstance(x, Decimal) for x in worths):
        worths = [decimal_of(x) for x in worths]
        operations = {"add": EXACT.add, "take": EXACT.subtract, "times": EXACT.multiply, "fused": EXACT.fma}
        if word in operations:
            return operations[word](*worths)
        if word == "by" and worths[1].copy_abs() < CLOSE:
            raise Close
        if word == "by":
            return EXACT.divide(*worths)
    x, last = worths[0], worths[-1]
    return {
        "by": lambda: x / last,
        "add": lambda: x + last, "take": lambda: x - last, "times": lambda: x * last, "fused": lambda: x * worths[1] + last,
        "opposite": lambda: x.copy_negate() if isinstance(x, Decimal) else -x,
        "size": lambda: x.copy_abs() if isinstance(x, Decimal) else abs(x),
        "least": lambda: x if x < last else last, "greatest": lambda: last if x < last else x,
    }[word]()


def root_of(x):
    if is_below(x, Fraction(0)):
        return None
    if isinstance(x, Decimal):
        return EXACT.sqrt(x)
    n, d = isqrt(x.numerator), isqrt(x.denominator)
    return Fraction(n, d) if n * n == x.numerator and d * d == x.denominator else EXACT.sqrt(decimal_of(x))


@lru_cache(maxsize=None)
def plain_numbers(form):
    """All NUMBERS of a small FORMAT that may be ends of SPANS, ascending."""
    return tuple([number for number in numbers_in_order(form) if number[:3] != ("num", 1, 0)])


@lru_cache(maxsize=None)
def plain_worths(form):
    return [worth_of(form, number) for number in plain_numbers(form)]


def end_under(form, x):
    """The greatest VALUE of a small FORMAT, as an end, that is not above a Fraction."""
    at = bisect_right(plain_worths(form), x)
    return plain_numbers(form)[at - 1] if at else BOTTOM


def end_beyond(form, x):
    """The least VALUE of a small FORMAT, as an end, that is not below a Fraction."""
    at = bisect_left(plain_worths(form), x)
    return plain_numbers(form)[at] if at < len(plain_numbers(form)) else TOP


def spans_among(form, many):
    """The SPANS of a small FORMAT but ("none",) with ends among infs and so many NUMBERS, 0 with them, ascending."""
    chosen = set(some_of(plain_numbers(form), many)) | {("num", 0, 0, form[2])}
    ends = [BOTTOM] + [number for number in plain_numbers(form) if number in chosen] + [TOP]
    return [("span", low, high) for at, low in enumerate(ends) for high in ends[at:] if low != TOP and high != BOTTOM]


def numbers_within(form, span):
    """All NUMBERS of a small FORMAT that a SPAN HOLDS, with the SIGN 0 if they are zeros, ascending."""
    if span == NO_NUMBERS:
        return []
    numbers = plain_numbers(form)
    low = numbers.index(span[1]) if span[1] != BOTTOM else 0
    high = numbers.index(span[2]) + 1 if span[2] != TOP else len(numbers)
    return numbers[low:high]


def drawn_span(random, form, finite=False):
    """A SPAN of a small FORMAT."""
    numbers = plain_numbers(form)
    low, high = sorted(random.choices(range(len(numbers)), k=2))
    one = ("span", numbers[low], numbers[high])
    if finite or random.random() < 0.7:
        return one
    return random.choice([NO_NUMBERS, WHOLE, ("span", BOTTOM, one[2]), ("span", one[1], TOP), ("span", one[1], one[1])])


def spans_of_large(form, many, seed):
    """SPANS of a FORMAT whose NUMBERS cannot be listed, each with two NUMBERS."""
    numbers = sorted([(key_of(number), number) for number in some_numbers(form, 2 * many, seed)])
    plain = [number if number[2] else ("num", 0, 0, form[2]) for _, number in numbers]
    return [("span", plain[at], plain[len(plain) - 1 - at]) for at in range(many)] + [
        ("span", plain[at], plain[at + 1]) for at in range(many)]


def key_of(number):
    """What orders NUMBERS of one FORMAT."""
    _, s, c, e = number
    if c == 0:
        return (0, 0, 0)
    return (-1, -e, -c) if s else (1, e, c)


def outcome_of_word(form, way, word, values):
    """The OUTCOME of one operation, by the function that the document names for it."""
    if word in ("add", "take", "times", "by"):
        return getattr(basic, word)(form, way, *values)
    if word in ("root", "fused"):
        return getattr(roots, word)(form, way, *values)
    if word == "whole":
        return rests.whole(form, way, *values)
    if word == "rest":
        return rests.rest(form, *values)
    if word in ("least", "greatest"):
        return getattr(scaling, word)(form, *values)
    return (getattr(worths, word)(*values), ())
