"""PAPERS that tell of each STEP where its TRUE worth lies, and how far from it the VALUE of a run is.

In this file rows are those of a PAPER, one for each STEP: tuples (SPAN, FRACTION), each SPAN with two NUMBERS.
"""

from nearestheld.fractions import added, compared, lessened, over, size_of, times
from nearestheld.reaches import greatest_of, least_of
from nearestheld.rounding import most_error, rounded, rounded_root
from nearestheld.spanops import span_result
from nearestheld.spans import holds, lies_in, span_of
from nearestheld.worths import worth


def far_of(form, span):
    """The greatest size of a number that a SPAN with two NUMBERS HOLDS."""
    return greatest_of(_sizes_of_ends(form, span))


def near_of(form, span):
    """The least size of a number that a SPAN with two NUMBERS HOLDS."""
    if holds(form, span, (0, 1)):
        return (0, 1)
    return least_of(_sizes_of_ends(form, span))


def rule_kept(program, form, way, box, paper, index):
    """Whether the step with an index keeps its RULE in a PAPER."""
    step = program[1][index]
    span, error = paper[index]
    needed = span_needed(form, box, step, paper)
    if needed is None or not lies_in(form, needed, span):
        return False
    least = least_error(form, way, step, paper, span)
    return least is not None and compared(error, least) >= 0


def span_needed(form, box, step, rows):
    """The SPAN that has to lie in that of a STEP by its RULE; None if the RULE cannot be kept.

    The rows are those of the steps ahead.
    """
    if step[0] == "input":
        return box[step[1]]
    if step[0] == "told":
        return span_of(form, step[1], step[1])
    if step[0] == "if":
        side = _side_taken(form, step, rows)
        return None if side is None else rows[side][0]
    span, is_told = span_result(form, step[0], tuple([rows[part][0] for part in step[1:]]))
    return span if is_told else None


def least_error(form, way, step, rows, span):
    """The least FRACTION that the RULE of a STEP lets, this SPAN being its own; None if it lets none.

    The rows are those of the steps ahead.
    """
    word = step[0]
    if word == "input":
        return (0, 1)
    if word == "told":
        return _error_of_told(form, way, step[1])
    if word == "if":
        side = _side_taken(form, step, rows)
        return None if side is None else rows[side][1]
    parts = [rows[part] for part in step[1:]]
    if word in ("opposite", "size", "least", "greatest"):
        return greatest_of([part[1] for part in parts])
    carried = _carried_error(form, word, parts, span)
    if carried is None:
        return None
    rounding = most_error(form, way, added(far_of(form, span), carried))
    return None if rounding is None else added(carried, rounding)


def _sizes_of_ends(form, span):
    """The sizes of both ends of a SPAN with two NUMBERS."""
    return [size_of(worth(form, end)) for end in span[1:]]


def _side_taken(form, step, rows):
    """The index of the step that an "if" surely takes, both worths and VALUES; None if none is sure."""
    _, a, b, c, d = step
    (one, one_error), (other, other_error) = rows[a], rows[b]
    if compared(added(worth(form, one[2]), one_error), lessened(worth(form, other[1]), other_error)) < 0:
        return c
    if compared(lessened(worth(form, one[1]), one_error), added(worth(form, other[2]), other_error)) >= 0:
        return d
    return c if c == d else None


def _error_of_told(form, way, fraction):
    """How far a told FRACTION is from what it is ROUNDED to; None if it goes OVER."""
    number, flags = rounded(form, way, fraction, 0)
    return None if "over" in flags else size_of(lessened(fraction, worth(form, number)))


def _carried_error(form, word, parts, span):
    """What a step gets of the errors of its parts ahead of rounding; None if the RULE tells nothing.

    A part is its row, (SPAN, FRACTION); the other SPAN is that of the step.
    """
    one, other = parts[0], parts[-1]
    if word == "root":
        return _carried_by_root(form, one)
    if word == "by":
        return _carried_by_quotient(form, one, other, span)
    if word == "times":
        return _carried_by_product(form, one, other)
    if word == "fused":
        return added(_carried_by_product(form, one, parts[1]), other[1])
    return added(one[1], other[1])


def _carried_by_product(form, one, other):
    """What a product gets of the errors of both parts."""
    far = added(times(far_of(form, one[0]), other[1]), times(far_of(form, other[0]), one[1]))
    return added(far, times(one[1], other[1]))


def _carried_by_quotient(form, one, other, span):
    """What a quotient with a SPAN gets of the errors of both parts; None if the divisor is too near to 0."""
    nearest = lessened(near_of(form, other[0]), other[1])
    if nearest[0] <= 0:
        return None
    return over(added(one[1], times(far_of(form, span), other[1])), nearest)


def _carried_by_root(form, one):
    """What a root gets of the error of its part; None if that is too near to 0."""
    span, error = one
    if error[0] == 0:
        return (0, 1)
    least = lessened(worth(form, span[1]), error)
    if least[0] <= 0:
        return None
    root = worth(form, rounded_root(form, "down", least)[0])
    return None if root[0] == 0 else over(error, times((2, 1), root))
