"""Papers that a RESULT stays within a SPAN, or leaves it, and the BOXES in which it may be in a SPAN."""

from nearestheld.enclosed import result_within
from nearestheld.forms import is_fraction, is_integer, is_worded
from nearestheld.parting import halves, parted_box, widest
from nearestheld.spans import NO_NUMBERS, holds, lies_in, meet
from nearestheld.truth import true_worth
from nearestheld.worths import is_finite, worth

STAYS = ("in",)


def is_stay_paper(program, form, box, span, thing):
    """Whether thing, whatever it is, is a STAY PAPER."""
    if is_worded(thing, "in", 1):
        return _stays(program, form, box, span)
    if not is_worded(thing, "part", 4):
        return False
    _, index, one, other = thing
    if not is_integer(index) or index < 0 or index >= len(box):
        return False
    parts = parted_box(form, box, index)
    if parts is None:
        return False
    return is_stay_paper(program, form, parts[0], span, one) and is_stay_paper(program, form, parts[1], span, other)


def stay_paper(program, form, box, span, deep):
    """A STAY PAPER in which the BOX is PARTED at most so deep; None if there is none."""
    if _stays(program, form, box, span):
        return STAYS
    parts = halves(form, box) if deep > 0 else None
    if parts is None:
        return None
    papers = []
    for part in parts:
        paper = stay_paper(program, form, part, span, deep - 1)
        if paper is None:
            return None
        papers.append(paper)
    return ("part", widest(form, box), papers[0], papers[1])


def is_leave_paper(program, form, box, span, thing):
    """Whether thing, whatever it is, is a LEAVE PAPER of a PLAIN program."""
    if not is_worded(thing, "point", 2):
        return False
    inputs = thing[1]
    if not isinstance(inputs, tuple) or len(inputs) != len(box):
        return False
    if not all([is_fraction(x) and holds(form, one, x) for one, x in zip(box, inputs)]):
        return False
    exact = true_worth(program, inputs)
    return exact is None or not holds(form, span, exact)


def leave_paper(program, form, box, span, deep):
    """The first LEAVE PAPER with low ends, or high ends, of the BOX and of what comes if it is PARTED so deep."""
    for place in (1, 2):
        paper = _corner_paper(form, box, place)
        if paper is not None and is_leave_paper(program, form, box, span, paper):
            return paper
    parts = halves(form, box) if deep > 0 else None
    if parts is None:
        return None
    paper = leave_paper(program, form, parts[0], span, deep - 1)
    if paper is not None:
        return paper
    return leave_paper(program, form, parts[1], span, deep - 1)


def boxes_left(program, form, box, span, deep):
    """The list of the BOXES, PARTED at most so deep, in which the RESULT may be in a SPAN."""
    if meet(form, result_within(program, form, box)[0], span) == NO_NUMBERS:
        return []
    parts = halves(form, box) if deep > 0 else None
    if parts is None:
        return [box]
    return [left for part in parts for left in boxes_left(program, form, part, span, deep - 1)]


def _stays(program, form, box, span):
    """Whether the SPAN of the RESULT lies in a SPAN, and its truth is told."""
    result, is_told = result_within(program, form, box)
    return is_told and lies_in(form, result, span)


def _corner_paper(form, box, place):
    """A paper of the ends that stand at a place of the SPANS of a BOX; None if one of them is no NUMBER."""
    if not all([one != NO_NUMBERS and is_finite(one[place]) for one in box]):
        return None
    return ("point", tuple([worth(form, one[place]) for one in box]))
