"""BOXES parted in smaller ones."""

from nearestheld.enclosed import result_within
from nearestheld.formats import rank_of, steps_between, value_at
from nearestheld.spans import NO_NUMBERS, hull


def middle_of(form, one):
    """The VALUE in the middle of a SPAN, by RANKS; None if there is none between its ends."""
    if _steps_in(form, one) < 2:
        return None
    return value_at(form, (rank_of(form, one[1]) + rank_of(form, one[2])) // 2)


def widest(form, box):
    """The least index of the SPANS whose RANKS of ends differ most; None if no SPAN has a middle."""
    index, most = None, 1
    for at, one in enumerate(box):
        many = _steps_in(form, one)
        if many > most:
            index, most = at, many
    return index


def parted_box(form, box, index):
    """Two BOXES, in which the SPAN at index goes to its middle, and from there on; None if it has none."""
    middle = middle_of(form, box[index])
    if middle is None:
        return None
    _, low, high = box[index]
    return (_exchanged(box, index, ("span", low, middle)), _exchanged(box, index, ("span", middle, high)))


def halves(form, box):
    """The HALVES of a BOX, None if it cannot be PARTED."""
    index = widest(form, box)
    return None if index is None else parted_box(form, box, index)


def parted_result(program, form, box, deep):
    """The SPAN, and the truth, that all parts of a BOX tell together that is PARTED so deep."""
    parts = halves(form, box) if deep > 0 else None
    if parts is None:
        return result_within(program, form, box)
    one, other = [parted_result(program, form, part, deep - 1) for part in parts]
    return (hull(form, one[0], other[0]), one[1] and other[1])


def _steps_in(form, one):
    """By how much the RANKS of the ends of a SPAN differ, 0 of no numbers."""
    return 0 if one == NO_NUMBERS else steps_between(form, one[1], one[2])


def _exchanged(box, index, one):
    """The BOX with another SPAN at index."""
    return box[:index] + (one,) + box[index + 1:]
