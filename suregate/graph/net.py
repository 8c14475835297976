"""Nets: circuits without names and outputs."""


class Net:
    """A number of inputs, latches (pairs of start value and next literal) and ands (pairs of literals)."""

    def __init__(self, input_count, latches, ands):
        self.input_count = input_count
        self.latches = list(latches)
        self.ands = list(ands)

    @property
    def first_latch(self):
        """The node of the first latch, or where it would be."""
        return 1 + self.input_count

    @property
    def first_and(self):
        """The node of the first and, or where it would be."""
        return 1 + self.input_count + len(self.latches)

    @property
    def node_count(self):
        """The number of all nodes, the constant included."""
        return 1 + self.input_count + len(self.latches) + len(self.ands)
