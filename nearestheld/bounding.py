"""PAPERS made."""

from nearestheld.errorpapers import least_error, span_needed
from nearestheld.errors import CannotTell
from nearestheld.judging import bound_of
from nearestheld.spans import has_numbers


def error_paper(program, form, way, box):
    """A PAPER each step of which keeps its RULE, with the least SPANS and FRACTIONS, one step behind the other."""
    rows = []
    for at, step in enumerate(program[1]):
        span = span_needed(form, box, step, rows)
        if span is None or not has_numbers(span):
            raise CannotTell(at)
        error = least_error(form, way, step, rows, span)
        if error is None:
            raise CannotTell(at)
        rows.append((span, error))
    return tuple(rows)


def error_bound(program, form, way, box):
    """The FRACTION of the last step of this PAPER, None where it cannot be told."""
    try:
        paper = error_paper(program, form, way, box)
    except CannotTell:
        return None
    return bound_of(paper)
