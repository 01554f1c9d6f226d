"""What a thing is: these functions tell it of their last argument, whatever that is."""

from math import gcd

WAYS = ("even", "away", "up", "down", "zero")
FLAG_WORDS = ("by", "inexact", "invalid", "over", "tiny")

# How many earlier steps are named behind each word of a STEP, but for "input" and "told".
STEP_PARTS = {
    "add": 2, "take": 2, "times": 2, "by": 2, "fused": 3, "root": 1,
    "opposite": 1, "size": 1, "least": 2, "greatest": 2, "if": 4,
}


def integer_power(base, e):
    """base ** e, of an integer e from 0 on."""
    power = 1
    while e > 0:
        if e % 2 == 1:
            power = power * base
        base = base * base
        e = e // 2
    return power


def place_of(value):
    """A tuple that stands in the order of Python where a VALUE stands among those of its format.

    The zero with the SIGN 1 is ahead of the other one, a nan is behind all.
    """
    if value[0] == "nan":
        return (2, 0, 0)
    if value[0] == "inf":
        return (1, 0, 0) if value[1] == 0 else (-2, 0, 0)
    # The exponent goes first: above low all NUMBERS have all digits, so a greater one decides.
    if value[1] == 0:
        return (0, value[3], value[2])
    return (-1, -value[3], -value[2])


def is_integer(thing):
    """Whether thing is an integer; truths are none."""
    return isinstance(thing, int) and not isinstance(thing, bool)


def is_fraction(thing):
    """Whether thing is a FRACTION."""
    if not isinstance(thing, tuple) or len(thing) != 2:
        return False
    n, d = thing
    return is_integer(n) and is_integer(d) and d >= 1 and gcd(n, d) == 1


def is_format(thing):
    """Whether thing is a FORMAT."""
    if not isinstance(thing, tuple) or len(thing) != 4:
        return False
    if not all([is_integer(part) for part in thing]):
        return False
    base, digits, low, high = thing
    if base % 2 != 0 or base < 2 or base > 36 or digits < 2 or digits > 120:
        return False
    return -1200 <= low and low <= high and high <= 1200


def is_way(thing):
    """Whether thing is a WAY."""
    return isinstance(thing, str) and thing in WAYS


def are_flags(thing):
    """Whether thing is a tuple of FLAGS."""
    if not isinstance(thing, tuple):
        return False
    if not all([isinstance(word, str) and word in FLAG_WORDS for word in thing]):
        return False
    return all([one < other for one, other in zip(thing, thing[1:])])


def is_number(form, thing):
    """Whether thing is a NUMBER of a format."""
    if not is_worded(thing, "num", 4) or not all([is_integer(part) for part in thing[1:]]):
        return False
    base, digits, low, high = form
    _, s, c, e = thing
    if s not in (0, 1) or c < 0 or e < low or e > high:
        return False
    beyond = integer_power(base, digits)
    return c < beyond and (e == low or c * base >= beyond)


def is_value(form, thing):
    """Whether thing is a VALUE of a format."""
    if is_worded(thing, "nan", 1):
        return True
    if is_worded(thing, "inf", 2):
        return is_integer(thing[1]) and thing[1] in (0, 1)
    return is_number(form, thing)


def is_outcome(form, thing):
    """Whether thing is an OUTCOME of a format."""
    if not isinstance(thing, tuple) or len(thing) != 2:
        return False
    return is_value(form, thing[0]) and are_flags(thing[1])


def is_program(thing):
    """Whether thing is a PROGRAM."""
    if not isinstance(thing, tuple) or len(thing) != 2:
        return False
    many, steps = thing
    if not is_integer(many) or many < 0 or not isinstance(steps, tuple) or len(steps) == 0:
        return False
    return all([is_step(many, at, step) for at, step in enumerate(steps)])


def is_step(many, at, thing):
    """Whether thing is a STEP that may stand at an index of a PROGRAM with so many inputs."""
    if not isinstance(thing, tuple) or len(thing) == 0 or not isinstance(thing[0], str):
        return False
    word, parts = thing[0], thing[1:]
    if word == "input":
        return len(parts) == 1 and _is_index(many, parts[0])
    if word == "told":
        return len(parts) == 1 and is_fraction(parts[0])
    if word not in STEP_PARTS or len(parts) != STEP_PARTS[word]:
        return False
    return all([_is_index(at, part) for part in parts])


def is_plain(thing):
    """Whether thing is a PROGRAM that is PLAIN."""
    return is_program(thing) and all([step[0] != "root" for step in thing[1]])


def is_span(form, thing):
    """Whether thing is a SPAN of a format."""
    if is_worded(thing, "none", 1):
        return True
    if not is_worded(thing, "span", 3):
        return False
    _, low, high = thing
    if not _is_end(form, low) or not _is_end(form, high):
        return False
    if low == ("inf", 0) or high == ("inf", 1):
        return False
    return place_of(low) <= place_of(high)


def is_box(form, many, thing):
    """Whether thing is a BOX of so many SPANS of a format."""
    return isinstance(thing, tuple) and len(thing) == many and all([is_span(form, part) for part in thing])


def is_worded(thing, word, many):
    """Whether thing is a tuple of so many parts, from 1 on, the first of which is this word."""
    if not isinstance(thing, tuple) or len(thing) != many:
        return False
    return isinstance(thing[0], str) and thing[0] == word


def _is_index(many, thing):
    """Whether thing is an index of one of so many."""
    return is_integer(thing) and 0 <= thing and thing < many


def _is_end(form, thing):
    """Whether thing is a VALUE that may be an end of a SPAN, if the order of both ends lets it."""
    if not is_value(form, thing) or thing[0] == "nan":
        return False
    return thing[0] == "inf" or thing[2] != 0 or thing[1] == 0
