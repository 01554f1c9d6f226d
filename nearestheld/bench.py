"""A bench on which VALUES have names and commands reckon with them."""

from nearestheld.errors import NoCommand, NoText, Wrong
from nearestheld.forms import is_format, is_way
from nearestheld.orders import less
from nearestheld.reader import read, show_own
from nearestheld.rests import rest, whole
from nearestheld.rounding import joined
from nearestheld.running import operated
from nearestheld.texts import shortest_text
from nearestheld.worths import is_finite

LETTERS = "abcdefghijklmnopqrstuvwxyz"
LONGEST_NAME = 8

# How many names stand behind the one that is set.
OPERANDS = {
    "add": 2, "take": 2, "times": 2, "by": 2, "rest": 2, "least": 2, "greatest": 2, "fused": 3,
    "root": 1, "whole": 1, "opposite": 1, "size": 1,
}


class Bench:
    """Names for VALUES of one FORMAT, a current WAY, and the FLAGS of all that was done."""

    def __init__(self, form, way):
        if not is_format(form):
            raise Wrong(0)
        if not is_way(way):
            raise Wrong(1)
        self.form = form
        self.way = way
        self.flags = ()
        self.named = {}
        # What each COMMAND that can be taken back found: the WAY, the FLAGS, the name that it set and the VALUE
        # of that; None where it set no name, or the name was not there.
        self.past = []

    def __eq__(self, other):
        if not isinstance(other, Bench) or self.form != other.form or self.way != other.way:
            return False
        return self.flags == other.flags and self.named == other.named

    def execute(self, line):
        """Do one COMMAND; the list of strings that it tells."""
        told = self._told(line.split(" ")) if isinstance(line, str) else None
        if told is None:
            raise NoCommand(line)
        return told

    def state(self):
        """The WAY, a dict from names to VALUES, and the FLAGS."""
        return (self.way, {name: self.named[name] for name in self._names()}, self.flags)

    def twin(self):
        """An independent Bench in the same state."""
        twin = Bench(self.form, self.way)
        twin.flags = self.flags
        twin.named = dict(self.named)
        twin.past = list(self.past)
        return twin

    def _told(self, words):
        """What the COMMAND with these words tells, once it is done; None if there is none."""
        word, behind = words[0], words[1:]
        if word == "set":
            return self._set(behind)
        if word in OPERANDS:
            return self._operate(word, behind)
        if word == "way":
            return self._turn(behind)
        if word in ("show", "own", "less"):
            return self._shown(word, behind)
        if len(behind) > 0:
            return None
        if word == "flags":
            return [" ".join(self.flags)]
        if word == "names":
            return [" ".join(self._names())]
        if word == "lower":
            return self._lower()
        return self._back() if word == "back" else None

    def _set(self, behind):
        """Set a name to what a NUMBER TEXT is read as."""
        if len(behind) != 2 or not _is_name(behind[0]):
            return None
        try:
            outcome = read(self.form, self.way, behind[1])
        except NoText:
            return None
        return self._keep(behind[0], outcome)

    def _operate(self, word, behind):
        """Set a name to what the operation with a word tells."""
        values = self._values(behind[1:])
        if len(behind) != OPERANDS[word] + 1 or not _is_name(behind[0]) or values is None:
            return None
        return self._keep(behind[0], _outcome_of(self.form, self.way, word, values))

    def _turn(self, behind):
        """Take another WAY."""
        if len(behind) != 1 or not is_way(behind[0]):
            return None
        self._remember(None)
        self.way = behind[0]
        return ["done"]

    def _shown(self, word, behind):
        """What is told of the VALUES of one name, or of two."""
        values = self._values(behind)
        if values is None or len(behind) != (2 if word == "less" else 1):
            return None
        if word == "less":
            return ["yes" if less(self.form, values[0], values[1]) else "no"]
        if word == "own" and is_finite(values[0]):
            return [show_own(self.form, values[0])]
        return [shortest_text(self.form, values[0])]

    def _lower(self):
        """Keep no FLAGS."""
        self._remember(None)
        self.flags = ()
        return ["done"]

    def _back(self):
        """Take the last COMMAND back that changed something."""
        if len(self.past) == 0:
            return ["nothing"]
        self.way, self.flags, name, value = self.past.pop()
        if value is not None:
            self.named[name] = value
        elif name is not None:
            self.named.pop(name)
        return ["done"]

    def _keep(self, name, outcome):
        """Set a name to the VALUE of an OUTCOME, and join its FLAGS to those that are kept."""
        self._remember(name)
        self.named[name] = outcome[0]
        self.flags = joined([(None, self.flags), outcome])
        return [shortest_text(self.form, outcome[0])]

    def _remember(self, name):
        """Remember what is now, ahead of a change of this name, or of none."""
        self.past.append((self.way, self.flags, name, self.named.get(name)))

    def _names(self):
        """The list of all names, ascending."""
        return sorted(list(self.named))

    def _values(self, names):
        """The list of the VALUES of names, None if one of them is not there."""
        if not all([name in self.named for name in names]):
            return None
        return [self.named[name] for name in names]


def _is_name(word):
    """Whether a string is a NAME."""
    return 1 <= len(word) <= LONGEST_NAME and all([letter in LETTERS for letter in word])


def _outcome_of(form, way, word, values):
    """The OUTCOME of the operation with a word of VALUES."""
    if word == "rest":
        return rest(form, values[0], values[1])
    if word == "whole":
        return whole(form, way, values[0])
    return operated(form, way, word, values)
