"""PROGRAMS: which of their steps are needed, programs put into one another, and their texts."""

from nearestheld.errors import NoLine, Wrong
from nearestheld.forms import is_step
from nearestheld.words import integer_in, integer_text


def needed_steps(program):
    """The indexes on which the RESULT hangs, an ascending tuple."""
    steps = program[1]
    needed = [False for _ in steps]
    needed[-1] = True
    for at in reversed(range(len(steps))):
        if needed[at]:
            for part in _indexes_in(steps[at]):
                needed[part] = True
    return tuple([at for at, is_needed in enumerate(needed) if is_needed])


def shortened(program):
    """The PROGRAM of the needed steps."""
    many, steps = program
    kept, places = [], {}
    for at in needed_steps(program):
        places[at] = len(kept)
        kept.append(_with_places(steps[at], places))
    return (many, tuple(kept))


def put_in(program, programs):
    """The PROGRAM in which the RESULTS of programs stand in the place of the inputs of program."""
    steps, results = [], []
    for inner in programs:
        places = [len(steps) + at for at in range(len(inner[1]))]
        steps.extend([_with_places(step, places) for step in inner[1]])
        results.append(len(steps) - 1)
    places = []
    for step in program[1]:
        if step[0] == "input":
            places.append(results[step[1]])
        else:
            places.append(len(steps))
            steps.append(_with_places(step, places))
    # The RESULT has to be the last step.
    if program[1][-1][0] == "input":
        steps.append(("least", places[-1], places[-1]))
    return (programs[0][0], tuple(steps))


def show_program(program):
    """The text of a PROGRAM, a line for its inputs and one for each STEP."""
    many, steps = program
    return "\n".join(["inputs " + integer_text(many)] + [_shown_step(step) for step in steps])


def read_program(text):
    """The PROGRAM that a text shows."""
    if not isinstance(text, str):
        raise Wrong(0)
    lines = text.split("\n")
    many = _inputs_in(lines[0])
    if many is None:
        raise NoLine(0)
    steps = []
    for at, line in enumerate(lines[1:]):
        step = _step_in(line)
        if not is_step(many, at, step):
            raise NoLine(at + 1)
        steps.append(step)
    if len(steps) == 0:
        raise NoLine(1)
    return (many, tuple(steps))


def _indexes_in(step):
    """The indexes of steps that a STEP names."""
    return () if step[0] in ("input", "told") else step[1:]


def _with_places(step, places):
    """A STEP that names, for each index in it, what stands there in places."""
    if step[0] in ("input", "told"):
        return step
    return step[:1] + tuple([places[part] for part in step[1:]])


def _shown_step(step):
    """The line of a STEP."""
    if step[0] == "told":
        n, d = step[1]
        return "told " + integer_text(n) + "/" + integer_text(d)
    return " ".join([step[0]] + [integer_text(part) for part in step[1:]])


def _inputs_in(line):
    """How many inputs the first line of a program tells, None if it is no such line."""
    words = line.split(" ")
    if len(words) != 2 or words[0] != "inputs":
        return None
    many = integer_in(words[1])
    return None if many is None or many < 0 else many


def _step_in(line):
    """The tuple that is the STEP of this line, if there is one."""
    words = line.split(" ")
    if words[0] == "told" and len(words) == 2:
        n, _, d = words[1].partition("/")
        return ("told", (integer_in(n), integer_in(d)))
    return (words[0],) + tuple([integer_in(word) for word in words[1:]])
