"""The coarsest lasting partition of the constant and the latches of a net."""

from suregate.frames.frames import same_clauses
from suregate.runs.packed import mask_of, packed_values, word_of
from suregate.runs.scattered import scattered_words
from suregate.sweep.likeness import Likeness

CASES = 256


class Partition:
    """Groups of the constant and the latches, each in ascending order; the group of the constant stands first.

    Making it finds the coarsest lasting partition, and lines from which it follows that the partition is lasting.
    """

    def __init__(self, net):
        self._net = net
        latch_nodes = list(range(net.first_latch, net.first_and))
        self.groups = [[0] + latch_nodes]
        self.lines = []
        # For each member of a group the mark of its resting literal, and the next value of this literal.
        self._marks = {0: 0}
        self._nexts = {0: 0}
        for node, (start, literal) in zip(latch_nodes, net.latches):
            self._marks[node] = start
            self._nexts[node] = literal ^ start
        lasting = False
        while not lasting:
            lasting = not self._divide_by_cases() and self._is_lasting()

    def steady_literal(self, node):
        """Returns the steady literal of a latch."""
        (group,) = [group for group in self.groups if node in group]
        return 2 * group[0] ^ self._marks[group[0]] ^ self._marks[node]

    def _divide(self, words, mask):
        """Divides each group by the next values in some cases, in which the states agree with the partition.

        So they agree with each lasting partition that divides these groups further. Tells whether a group is divided.
        """
        groups = []
        for group in self.groups:
            parts = {}
            for node in group:
                parts.setdefault(word_of(words, self._nexts[node], mask), []).append(node)
            groups.extend(list(parts.values()))
        divided = len(groups) > len(self.groups)
        self.groups = groups
        return divided

    def _divide_by_cases(self):
        """Divides the groups by the next values in many cases; tells whether a group is divided."""
        mask = mask_of(CASES)
        input_count = self._net.input_count
        words = scattered_words(input_count + len(self.groups), CASES)
        row_words = words[:input_count]
        # The resting literal of the constant is 0.
        group_words = [0] + words[input_count + 1:]
        states = {
            node: word_of([word], self._marks[node], mask)
            for group, word in zip(self.groups, group_words) for node in group}
        state_words = [states[node] for node in range(self._net.first_latch, self._net.first_and)]
        return self._divide(packed_values(self._net, state_words, row_words, mask), mask)

    def _is_lasting(self):
        """Tells whether the partition is lasting, and keeps the lines for this; if not, divides the groups."""
        clauses = []
        for group in self.groups:
            for node in group[1:]:
                clauses.extend(same_clauses(2 * group[0] ^ self._marks[group[0]], 2 * node ^ self._marks[node]))
        likeness = Likeness(self._net, clauses)
        for group in list(self.groups):
            for node in group[1:]:
                model = likeness.parting(self._nexts[group[0]], self._nexts[node])
                if model is not None:
                    self._divide(model, 1)
                    return False
        self.lines = likeness.lines_since(0)
        return True
