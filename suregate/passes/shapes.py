"""Ands that are built on trial."""

from suregate.graph.builder import Builder


class Shapes(Builder):
    """A builder whose last ands can be taken back, and which counts the ands that held literals need.

    Its methods change it, all but supports_of and count_instead.
    """

    def __init__(self, leaf_count, supports):
        super().__init__(leaf_count)
        # The number of ands that are needed, and for each node how many needed ands and held literals read it.
        self.live = 0
        self._uses = [0] * (leaf_count + 1)
        # For each node a word of what it depends on, by those of the leaves.
        self._supports = [0, *supports]

    def supports_of(self, literal):
        """Returns the word of what the literal depends on."""
        return self._supports[literal // 2]

    def hold(self, literal):
        """Needs what the literal needs, once more."""
        waiting = [literal]
        while waiting:
            node = waiting.pop() // 2
            if node > self.leaf_count:
                self._uses[node] += 1
                if self._uses[node] == 1:
                    self.live += 1
                    waiting.extend(self.pair_of(2 * node))

    def release(self, literal):
        """Takes back one holding of the literal."""
        waiting = [literal]
        while waiting:
            node = waiting.pop() // 2
            if node > self.leaf_count:
                self._uses[node] -= 1
                if self._uses[node] == 0:
                    self.live -= 1
                    waiting.extend(self.pair_of(2 * node))

    def count_instead(self, old, new):
        """Returns how many ands would be needed if all that reads the node of one literal read another one instead."""
        node = old // 2
        uses = self._uses[node]
        self.hold(new)
        count = self.live
        if uses > 0 and self._uses[node] == uses:
            for literal in list(self.pair_of(old)):
                self.release(literal)
            count = self.live - 1
            for literal in list(self.pair_of(old)):
                self.hold(literal)
        self.release(new)
        return count

    def take_back(self, count):
        """Takes back all ands but the first so many; none of them may be needed."""
        while len(self.pairs) > count:
            del self._literals[self.pairs.pop()]
            self._levels.pop()
            self._uses.pop()
            self._supports.pop()

    def _make(self, pair):
        """Makes a new and and returns its even literal."""
        left, right = pair
        self._uses.append(0)
        self._supports.append(self.supports_of(left) | self.supports_of(right))
        return super()._make(pair)
