"""TRUE worths of PROGRAMS, and bounds of them where roots are.

In this file what is known of a step is a tuple (low, high) of FRACTIONS, its bounds, which are the same
where the TRUE worth itself is known; None, if it has no TRUE worth; or an integer, if it is Undecided:
the least index of a step, itself or one that it asks, directly or not, at which bounds do not tell enough.
"""

from math import isqrt

from nearestheld.errors import Undecided
from nearestheld.forms import integer_power
from nearestheld.fractions import compared, lessened, power_of, reduced
from nearestheld.reaches import is_point, products, reached, reciprocals

ZERO = ((0, 1), (0, 1))

# A step is given up as Undecided once roots have had ENOUGH_PLACES, if all of them came as near as LEAST_PLACES.
LEAST_PLACES = 300
ENOUGH_PLACES = 1200


def true_worths(program, inputs):
    """The list of the TRUE worths of all steps of a PLAIN program, None where there is none."""
    known = {}
    for at, step in enumerate(program[1]):
        known[at] = _told(at, step, inputs, known, 0)
    return [None if bounds is None else bounds[0] for bounds in list(known.values())]


def true_worth(program, inputs):
    """The TRUE worth of a PLAIN program, None if there is none."""
    return true_worths(program, inputs)[-1]


def true_bounds(program, inputs, places):
    """Bounds of the TRUE worth of a program, at most 10 ** -places apart; None if there is none."""
    steps = program[1]
    # What comes of roots may be off by more than they are, so they have more places, twice as many each time.
    root_places = places + 10
    while True:
        known = _known(steps, inputs, root_places)
        told = known[len(steps) - 1]
        if told is None or (not isinstance(told, int) and _are_near(told, places)):
            return told
        if isinstance(told, int) and root_places >= ENOUGH_PLACES and _are_roots_near(steps, known):
            raise Undecided(told)
        root_places = 2 * root_places


def _known(steps, inputs, places):
    """A dict of what is known of the RESULT, and of each step that it asks, roots having so many places."""
    known = {}
    waiting = [len(steps) - 1]
    while len(waiting) > 0:
        at = waiting[-1]
        lacking = [part for part in _asked(steps[at], known) if part not in known]
        if len(lacking) > 0:
            waiting.append(lacking[0])
        else:
            known[at] = _told(at, steps[at], inputs, known, places)
            waiting.pop()
    return known


def _asked(step, known):
    """The indexes that a STEP asks; of an "if" a side only if what is known tells that it is taken."""
    if step[0] in ("input", "told"):
        return ()
    if step[0] != "if":
        return step[1:]
    _, a, b, c, d = step
    one, other = known.get(a), known.get(b)
    if not isinstance(one, tuple) or not isinstance(other, tuple):
        return (a, b)
    if compared(one[1], other[0]) < 0:
        return (a, b, c)
    return (a, b) if compared(one[0], other[1]) < 0 else (a, b, d)


def _told(at, step, inputs, known, places):
    """What is known of a STEP with an index, all that it asks being known."""
    if step[0] in ("input", "told"):
        exact = inputs[step[1]] if step[0] == "input" else step[1]
        return (exact, exact)
    parts = [known[part] for part in _asked(step, known)]
    undecided = [part for part in parts if isinstance(part, int)]
    if len(undecided) > 0:
        return min(undecided)
    if _is_open(step[0], parts):
        return at
    if any([part is None for part in parts]):
        return None
    return parts[2] if step[0] == "if" else _bounds(step[0], parts, places)


def _is_open(word, parts):
    """Whether the bounds of the parts of a step do not tell what it has to ask of them."""
    asked = parts[-1]
    if word not in ("by", "root", "if") or asked is None:
        return False
    low, high = asked
    if word == "by":
        return low[0] <= 0 and high[0] >= 0 and not is_point(asked)
    if word == "root":
        return low[0] < 0 and high[0] >= 0
    return len(parts) == 2 and parts[0] is not None


def _bounds(word, parts, places):
    """The bounds of what a word but "if" makes of bounds that tell enough; None if that is nothing."""
    if word == "by":
        return None if parts[1] == ZERO else products(parts[0], reciprocals(parts[1])[0])
    if word == "root":
        low, high = parts[0]
        return None if high[0] < 0 else (_root(low, places)[0], _root(high, places)[1])
    return reached(word, parts)


def _root(x, places):
    """The bounds of the root of a FRACTION from 0 on, the same if the root is a FRACTION."""
    n, d = isqrt(x[0]), isqrt(x[1])
    if n * n == x[0] and d * d == x[1]:
        return ((n, d), (n, d))
    # Four bits are more than a place; the others let a small root have as many digits as a great one.
    unit = integer_power(2, 4 * places + max(0, x[1].bit_length() - x[0].bit_length()))
    whole = isqrt(x[0] * unit * unit // x[1])
    return (reduced(whole, unit), reduced(whole + 1, unit))


def _are_near(bounds, places):
    """Whether bounds are at most 10 ** -places apart."""
    return compared(lessened(bounds[1], bounds[0]), power_of(10, -places)) <= 0


def _are_roots_near(steps, known):
    """Whether the bounds of all roots that are known are near enough to give up what is Undecided."""
    roots = [known[at] for at in known if steps[at][0] == "root" and isinstance(known[at], tuple)]
    return all([_are_near(bounds, LEAST_PLACES) for bounds in roots])
