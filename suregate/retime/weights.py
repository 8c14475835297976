"""The weights of the pins of a circuit, and legal labels."""

from suregate.errors import InvalidLabels

GREATEST_LABEL = 2000
FREE_PIN = (-1, 0)


def pin_weights(circuit):
    """Returns for each and the pairs of feeder and weight of its two pins."""
    net = circuit.as_net()
    return [[_feeder_of(net, left // 2), _feeder_of(net, right // 2)] for left, right in net.ands]


def check_labels(circuit, labels):
    """Raises InvalidLabels if the labels are not legal."""
    and_count = len(circuit.ands)
    for index, label in enumerate(labels):
        if index >= and_count or label < 0 or label > GREATEST_LABEL:
            raise InvalidLabels(index)
    if len(labels) < and_count:
        raise InvalidLabels(len(labels))
    for index, pins in enumerate(_new_weights(circuit, labels)):
        if not all([weight >= 0 for _, weight in pins]):
            raise InvalidLabels(index)


def depth_under(circuit, labels):
    """Returns the depth of the circuit under the labels."""
    check_labels(circuit, labels)
    first_and = circuit.as_net().first_and
    sources = [
        [feeder - first_and for feeder, weight in pins if feeder >= first_and and weight == 0]
        for pins in _new_weights(circuit, labels)]
    return max(_path_lengths(sources), default=0)


def _feeder_of(net, node):
    """Returns the feeder and the weight of a pin whose literal has this node."""
    weight = 0
    while net.first_latch <= node < net.first_and:
        # Whoever has passed all latches and is at a latch again goes round in a ring.
        if weight == len(net.latches):
            return FREE_PIN
        _, literal = net.latches[node - net.first_latch]
        node = literal // 2
        weight += 1
    if node == 0:
        return FREE_PIN
    return node, weight


def _new_weights(circuit, labels):
    """Returns for each and the pairs of feeder and new weight of its pins that are not free."""
    first_and = circuit.as_net().first_and
    answers = []
    for label, pins in zip(labels, pin_weights(circuit)):
        weights = []
        for feeder, weight in pins:
            if feeder >= first_and:
                weights.append((feeder, weight + labels[feeder - first_and] - label))
            elif feeder > 0:
                weights.append((feeder, weight - label))
        answers.append(weights)
    return answers


def _path_lengths(sources):
    """Returns for each and the greatest length of a path that ends there, given the ands that its pins come from.

    The pins close no ring, for on each ring of pins a latch is left.
    """
    readers = [[] for _ in sources]
    for index, row in enumerate(sources):
        for source in row:
            readers[source].append(index)
    waiting = [len(row) for row in sources]
    ready = [index for index, count in enumerate(waiting) if count == 0]
    lengths = [1] * len(sources)
    while ready:
        source = ready.pop()
        for index in readers[source]:
            lengths[index] = max(lengths[index], lengths[source] + 1)
            waiting[index] -= 1
            if waiting[index] == 0:
                ready.append(index)
    return lengths
