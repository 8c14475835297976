"""The judge of ways, which show that labels are not too great."""


def fault_of_ways(circuit, size, labels, ways):
    """Returns None if the labels and the ways are right, or else the index of the first and for which they are not."""
    net = circuit.as_net()
    known = [0] * net.first_and
    for index in range(max(len(net.ands), len(labels), len(ways))):
        if index >= min(len(net.ands), len(labels), len(ways)) or labels[index] < 0:
            return index
        known.append(labels[index])
        # An and with a label of at most 1 has no ways.
        count = size + 1 if labels[index] > 1 else 0
        if len(ways[index]) != count or not _are_ways(net, known, ways[index]):
            return index
    return None


def _are_ways(net, known, ways):
    """Tells whether these are ways to the last of the nodes with known labels, and share none with a small label."""
    node = len(known) - 1
    used = {}
    for way in ways:
        if not _is_way(net, node, way):
            return False
        for place in way:
            if known[place] <= known[node] - 2:
                if place in used:
                    return False
                used[place] = True
    return True


def _is_way(net, node, way):
    """Tells whether this is a way to an and."""
    if len(way) < 2 or way[0] < 1 or way[0] >= net.first_and or way[-1] != node:
        return False
    for before, following in zip(way, way[1:]):
        # No node is greater than the and, for each one reads the node before it.
        if following < net.first_and or following > node:
            return False
        left, right = net.ands[following - net.first_and]
        if before not in (left // 2, right // 2):
            return False
    return True
