"""The errors of nearestheld: each one keeps what it was made from, under the names of its signature."""


class NearError(ValueError):
    """What all errors of this package are; it is raised nowhere itself."""


class CannotTell(NearError):
    """No error bound can be told of a step."""

    def __init__(self, step):
        self.step = step


class NoCommand(NearError):
    """A line is no command."""

    def __init__(self, line):
        self.line = line


class NoLine(NearError):
    """A line, told by its index, is not that of a program."""

    def __init__(self, line):
        self.line = line


class NoText(NearError):
    """A text does not show what it should."""

    def __init__(self, text):
        self.text = text


class NotThere(NearError):
    """A value that should be taken out is not in."""

    def __init__(self, value):
        self.value = value


class Nothing(NearError):
    """There is nothing to take back."""


class TooMany(NearError):
    """There are more than the most that are allowed."""

    def __init__(self, most):
        self.most = most


class Undecided(NearError):
    """Bounds do not decide which way a step goes."""

    def __init__(self, step):
        self.step = step


class Wrong(NearError):
    """An argument, told by its place, is not as described."""

    def __init__(self, place):
        self.place = place
