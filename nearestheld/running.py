"""PROGRAMS run in a FORMAT, and how far off their RESULTS are."""

from nearestheld.basic import add, by, take, times
from nearestheld.errors import TooMany
from nearestheld.fractions import compared, lessened, size_of
from nearestheld.orders import less
from nearestheld.roots import fused, root
from nearestheld.rounding import joined, rounded
from nearestheld.scaling import greatest, least
from nearestheld.truth import true_worth
from nearestheld.worths import is_finite, opposite, size, worth

MOST_CHOICES = 2000


def run(program, form, way, values):
    """The list of the VALUES of all steps, and the FLAGS that some step has."""
    made, outcomes = [], []
    for step in program[1]:
        outcome = _outcome_of(form, way, step, values, made)
        made.append(outcome[0])
        outcomes.append(outcome)
    return (made, joined(outcomes))


def result_of(program, form, way, values):
    """The VALUE of the RESULT."""
    return run(program, form, way, values)[0][-1]


def error_at(program, form, way, values):
    """How far the RESULT is from the TRUE worth at the worths of NUMBERS; None if one of both is none."""
    result = result_of(program, form, way, values)
    exact = true_worth(program, tuple([worth(form, value) for value in values]))
    if exact is None or not is_finite(result):
        return None
    return size_of(lessened(worth(form, result), exact))


def worst_error(program, form, way, lists):
    """The greatest error of all choices of one NUMBER of each list, and the first choice that has it."""
    worst = None
    for values in _choices(lists):
        error = error_at(program, form, way, values)
        if error is not None and (worst is None or compared(error, worst[0]) > 0):
            worst = (error, values)
    return worst


def operated(form, way, word, values):
    """The OUTCOME of the operation that a word of a STEP names, of as many VALUES as it takes."""
    x, last = values[0], values[-1]
    if word == "add":
        return add(form, way, x, last)
    if word == "take":
        return take(form, way, x, last)
    if word == "times":
        return times(form, way, x, last)
    if word == "by":
        return by(form, way, x, last)
    if word == "fused":
        return fused(form, way, x, values[1], last)
    if word == "root":
        return root(form, way, x)
    if word == "least":
        return least(form, x, last)
    if word == "greatest":
        return greatest(form, x, last)
    return (opposite(x) if word == "opposite" else size(x), ())


def _outcome_of(form, way, step, values, made):
    """The OUTCOME of a STEP, of the inputs and of what the steps ahead of it have made."""
    if step[0] == "input":
        return (values[step[1]], ())
    if step[0] == "told":
        return rounded(form, way, step[1], 0)
    parts = [made[part] for part in step[1:]]
    if step[0] == "if":
        return (parts[2] if less(form, parts[0], parts[1]) else parts[3], ())
    return operated(form, way, step[0], parts)


def _choices(lists):
    """The list of all choices of one NUMBER of each list, the last list turning first."""
    many = 1
    for numbers in lists:
        many = many * len(numbers)
    if many > MOST_CHOICES:
        raise TooMany(MOST_CHOICES)
    choices = [()]
    for numbers in lists:
        choices = [choice + (number,) for choice in choices for number in numbers]
    return choices
