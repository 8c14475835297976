"""Labels for a given depth, or a ring which shows that there are none, and the least depth."""

from suregate.retime.weights import depth_under, pin_weights


class Heights:
    """The least heights of the ands of a circuit for a depth of at least 1; its methods change it.

    The height of an and is its label times the depth, plus the number of pins on the longest path of new weight 0
    that starts at it. So a pin of weight w demands that its feeder is higher than its and by at least 1 - w * depth.
    And if all heights are as demanded, no path is too long under the labels that they give.
    """

    def __init__(self, pins, first_and, depth):
        self._pins = pins
        self._first_and = first_and
        self._depth = depth
        self._heights = [0] * len(pins)
        # For each and the pin that demanded its height: the index of the pin's and, and the side.
        self._demands = [None] * len(pins)

    def rise(self):
        """Makes each and as high as demanded, for one round; tells whether one was too low."""
        changed = False
        # Feeders without a latch between come later in this order, so that rounds are few.
        for index in reversed(range(len(self._pins))):
            for side, (feeder, weight) in enumerate(list(self._pins[index])):
                source = feeder - self._first_and
                height = self._heights[index] + 1 - weight * self._depth
                if source >= 0 and height > self._heights[source]:
                    self._heights[source] = height
                    self._demands[source] = (index, side)
                    changed = True
        return changed

    def as_labels(self):
        """Returns the labels that belong to the heights."""
        return [height // self._depth for height in self._heights]

    def ring(self):
        """Returns a ring that is valid, if the demands show one already, or None."""
        pins = self._demanded_round()
        if pins is not None:
            return self._ring_of_round(pins)
        for index, sides in enumerate(self._pins):
            for side, (feeder, weight) in enumerate(sides):
                if 0 < feeder < self._first_and and self._heights[index] // self._depth > weight:
                    return self._ring_from_input(index, side)
        return None

    def _demanded_round(self):
        """Returns pins that lead round to where they start, each the demand of its feeder, or None."""
        visits = [None] * len(self._pins)
        for start in range(len(self._pins)):
            index = start
            while visits[index] is None and self._demands[index] is not None:
                visits[index] = start
                index = self._demands[index][0]
            if visits[index] is None:
                visits[index] = start
            elif visits[index] == start and self._demands[index] is not None:
                return self._demanded_pins(index)
        return None

    def _demanded_pins(self, index):
        """Returns the pins on the path of demands from an and on, to its end or once round."""
        pins = []
        place = index
        while self._demands[place] is not None:
            place, side = self._demands[place]
            pins.append((place + self._first_and, side))
            if place == index:
                break
        return pins

    def _ring_of_round(self, pins):
        """Returns a ring that goes so often round that it can be cut into more paths than the weights allow."""
        weight = sum([self._weight_of(pin) for pin in pins])
        # Heights grow by this much each time round.
        growth = len(pins) - weight * self._depth
        times = (self._depth + growth - 1) // growth
        start, _ = pins[-1]
        return self._links(start, pins * times)

    def _ring_from_input(self, index, side):
        """Returns a ring from the pin of an input to its and, which is too high, and on to a lowest and."""
        node = index + self._first_and
        pins = self._demanded_pins(index)
        end = pins[-1][0] if pins else node
        return [("pin", node, side)] + self._links(node, pins) + [("floor", end)]

    def _links(self, start, pins):
        """Returns as many links of too long paths as the pins give, and links of the pins that are left."""
        links = []
        whole = len(pins) // self._depth * self._depth
        for place in range(0, whole, self._depth):
            path = tuple(pins[place:place + self._depth])
            links.append(("path", start, path))
            start, _ = path[-1]
        return links + [("pin", node, side) for node, side in pins[whole:]]

    def _weight_of(self, pin):
        """Returns the weight of a pin."""
        node, side = pin
        _, weight = self._pins[node - self._first_and][side]
        return weight


def labels_for(circuit, depth):
    """Returns the least labels under which the depth is at most this, and []; or None and a ring."""
    first_and = circuit.as_net().first_and
    if not circuit.ands:
        return [], []
    if depth == 0:
        # A single and is a path that is too long.
        return None, [("path", first_and, ())]
    heights = Heights(pin_weights(circuit), first_and, depth)
    ring = None
    while ring is None and heights.rise():
        ring = heights.ring()
    if ring is not None:
        return None, ring
    return heights.as_labels(), []


def least_depth(circuit):
    """Returns the least depth, the labels for it, and a ring for the depth below it."""
    labels = [0] * len(circuit.ands)
    ring = []
    # Depths from `high` on can be reached, those below `low` cannot.
    low = 0
    high = depth_under(circuit, labels)
    while low < high:
        middle = (low + high) // 2
        found, new_ring = labels_for(circuit, middle)
        if found is None:
            low = middle + 1
            ring = new_ring
        else:
            high = middle
            labels = found
    return high, labels, ring
