"""The judge of PAPERS."""

from nearestheld.errorpapers import rule_kept
from nearestheld.forms import is_fraction, is_span
from nearestheld.fractions import added
from nearestheld.spans import has_numbers


def is_paper(program, form, way, box, thing):
    """Whether thing, whatever it is, is a PAPER each step of which keeps its RULE."""
    if not isinstance(thing, tuple) or len(thing) != len(program[1]):
        return False
    if not all([_is_row(form, row) for row in thing]):
        return False
    return broken_step(program, form, way, box, thing) is None


def broken_step(program, form, way, box, paper):
    """The least index of a step whose RULE a PAPER does not keep, None if all are kept."""
    for at in range(len(program[1])):
        if not rule_kept(program, form, way, box, paper, at):
            return at
    return None


def widened(program, form, way, box, paper, index, more):
    """The PAPER in which the FRACTION at an index is greater by more."""
    span, error = paper[index]
    return paper[:index] + ((span, added(error, more)),) + paper[index + 1:]


def bound_of(paper):
    """The FRACTION of the last step."""
    return paper[-1][1]


def _is_row(form, thing):
    """Whether thing is a SPAN with two NUMBERS, and a FRACTION not below 0."""
    if not isinstance(thing, tuple) or len(thing) != 2:
        return False
    span, error = thing
    return is_span(form, span) and has_numbers(span) and is_fraction(error) and error[0] >= 0
