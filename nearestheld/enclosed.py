"""PROGRAMS over BOXES."""

from nearestheld.spanops import span_result
from nearestheld.spans import NO_NUMBERS, hull, side_of, span_of


def enclosed(program, form, box):
    """The list of tuples (SPAN, truth), one for each STEP."""
    found = []
    for step in program[1]:
        found.append(_enclosed_step(form, box, step, found))
    return found


def result_within(program, form, box):
    """The SPAN of the RESULT, and whether there is a TRUE worth for all inputs WITHIN the BOX."""
    return enclosed(program, form, box)[-1]


def _enclosed_step(form, box, step, found):
    """The SPAN of a STEP and its truth, found being those of the steps ahead of it."""
    if step[0] == "input":
        return (box[step[1]], True)
    if step[0] == "told":
        return (span_of(form, step[1], step[1]), True)
    parts = [found[part] for part in step[1:]]
    if step[0] == "if":
        return _enclosed_if(form, parts)
    span, is_told = span_result(form, step[0], tuple([part[0] for part in parts]))
    return (span, is_told and _are_told(parts))


def _enclosed_if(form, parts):
    """The SPAN of an "if" and its truth."""
    one, other, first, second = parts
    side = side_of(form, one[0], other[0])
    if side == "less":
        return (first[0], _are_told([one, other, first]))
    if side == "not":
        return (second[0], _are_told([one, other, second]))
    if side == "none":
        return (NO_NUMBERS, _are_told([one, other]))
    return (hull(form, first[0], second[0]), _are_told(parts))


def _are_told(parts):
    """Whether the truths of all parts are told."""
    return all([part[1] for part in parts])
