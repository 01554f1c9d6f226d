"""A heap of VALUES, the sum of which can be told at any time."""

from nearestheld.errors import NotThere, Nothing, Wrong
from nearestheld.forms import is_format, is_value, is_way
from nearestheld.orders import in_order
from nearestheld.sums import counted_sum_of


class Heap:
    """VALUES of one FORMAT that are put in and taken out in any order."""

    def __init__(self, form):
        if not is_format(form):
            raise Wrong(0)
        self.form = form
        # How often each VALUE is in. Sums are told of these alone, so nothing is left behind by what was taken out.
        self.counts = {}
        # What each call that was not taken back has changed: a list of VALUES, and by how much they are in more often.
        self.changes = []

    def __eq__(self, other):
        return isinstance(other, Heap) and self.form == other.form and self.counts == other.counts

    def put(self, value):
        """Put a VALUE in."""
        if not is_value(self.form, value):
            raise Wrong(0)
        self._change([(value, 1)])

    def take_out(self, value):
        """Take a VALUE out that is just this one."""
        if not is_value(self.form, value):
            raise Wrong(0)
        if value not in self.counts:
            raise NotThere(value)
        self._change([(value, -1)])

    def join(self, heap):
        """Put all in that another Heap, or this one, has in."""
        if not isinstance(heap, Heap) or heap.form != self.form:
            raise Wrong(0)
        self._change(list(heap.counts.items()))

    def undo(self):
        """Take the last change back."""
        if len(self.changes) == 0:
            raise Nothing()
        change = self.changes.pop()
        self._count([(value, -many) for value, many in change])

    def told(self, way):
        """The OUTCOME of the sum of all that are in."""
        if not is_way(way):
            raise Wrong(0)
        return counted_sum_of(self.form, way, list(self.counts.items()))

    def members(self):
        """The list of all that are in, in their order."""
        return in_order(self.form, [value for value, many in self.counts.items() for _ in range(many)])

    def many(self):
        """How many are in."""
        return sum(list(self.counts.values()))

    def twin(self):
        """An independent Heap in the same state."""
        twin = Heap(self.form)
        twin.counts = {value: self.counts[value] for value in self.counts}
        twin.changes = list(self.changes)
        return twin

    def _change(self, change):
        """Make a change that can be taken back."""
        self._count(change)
        self.changes.append(change)

    def _count(self, change):
        """Count the VALUES of a change."""
        for value, more in change:
            many = self.counts.get(value, 0) + more
            if many == 0:
                self.counts.pop(value)
            else:
                self.counts[value] = many
