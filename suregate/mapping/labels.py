"""The labels of ands, with cuts and ways which show that they are neither too small nor too great."""

from suregate.mapping.flow import found_ways_or_cut, way_sources


class Labelling:
    """The labels of the nodes of a net for a size, 0 for the constant; for each and a cut and its ways.

    All nodes of the cut of an and have smaller labels than the and.
    """

    def __init__(self, net, size):
        self._size = size
        self._sources = way_sources(net)
        self.labels = [0] * net.first_and
        self.cuts = [()] + [(node,) for node in range(1, net.first_and)]
        self.ways = [[] for _ in range(net.first_and)]
        for node, (left, right) in enumerate(net.ands, start=net.first_and):
            self._add_and(node, left // 2, right // 2)

    def _add_and(self, node, left, right):
        """Finds the label of an and, given the nodes that it reads; it is their greatest label or 1 more."""
        greatest = max(self.labels[left], self.labels[right])
        word = "ways"
        found = []
        if greatest > 0:
            limit = [label < greatest for label in self.labels]
            word, found = found_ways_or_cut(self._sources, node, limit, self._size)
        if word == "cut":
            # Each way to a node with the same label goes on to the and.
            highest = left if self.labels[left] == greatest else right
            self.labels.append(greatest)
            self.cuts.append(found)
            self.ways.append([[*way, node] for way in self.ways[highest]])
        else:
            self.labels.append(greatest + 1)
            self.cuts.append(tuple([place for place in sorted(set([left, right])) if place > 0]))
            self.ways.append(found)
