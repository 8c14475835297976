"""Two circuits side by side."""

from suregate.errors import UnlikeInterfaces
from suregate.graph.net import Net


class Joined:
    """The joint net of two circuits with the same interface, and the goals."""

    def __init__(self, left, right):
        if not _same_interface(left, right):
            raise UnlikeInterfaces("the circuits differ in their inputs or in the names of their outputs")
        left_net = left.as_net()
        right_net = right.as_net()
        self._first_latch = left_net.first_latch
        self._left_latches = len(left.latches)
        self._right_latches = len(right.latches)
        self._left_ands = len(left.ands)
        latches = [(start, self.from_left(literal)) for start, literal in left_net.latches]
        latches += [(start, self.from_right(literal)) for start, literal in right_net.latches]
        ands = [(self.from_left(one), self.from_left(other)) for one, other in left.ands]
        ands += [(self.from_right(one), self.from_right(other)) for one, other in right.ands]
        self.joint = Net(len(left.inputs), latches, ands)
        self.goals = [
            (self.from_left(one), self.from_right(other))
            for (_, one), (_, other) in zip(left.outputs, right.outputs)]

    def from_left(self, literal):
        """Returns the joint literal of a literal of the left circuit."""
        if literal // 2 < self._first_latch + self._left_latches:
            return literal
        return literal + 2 * self._right_latches

    def from_right(self, literal):
        """Returns the joint literal of a literal of the right circuit."""
        if literal // 2 < self._first_latch:
            return literal
        if literal // 2 < self._first_latch + self._right_latches:
            return literal + 2 * self._left_latches
        return literal + 2 * (self._left_latches + self._left_ands)


def _same_interface(left, right):
    """Tells whether the inputs and the names of the outputs are the same, in order."""
    left_names = [name for name, _ in left.outputs]
    right_names = [name for name, _ in right.outputs]
    return left.inputs == right.inputs and left_names == right_names
