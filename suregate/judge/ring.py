"""The judge of rings, which show that no legal labels have a depth of at most a given number."""

from suregate.retime.weights import pin_weights


def fault_of_ring(circuit, depth, ring):
    """Returns None if the ring is valid for the circuit and the depth, or else the index of its first fault."""
    first_and = circuit.as_net().first_and
    weights = {node: pins for node, pins in enumerate(pin_weights(circuit), start=first_and)}
    links = [_link_of(weights, depth, entry) for entry in ring]
    for index, link in enumerate(links):
        # What stands before the first entry is the last one.
        before = links[index - 1]
        if link is None or before is None or before[1] != link[0]:
            return index
    # The sum for the empty ring is 0.
    if sum([bound for _, _, bound in links]) >= 0:
        return len(links)
    return None


def _link_of(weights, depth, entry):
    """Returns the start, the end and the bound of an entry of a ring, or None if it is not a link."""
    if len(entry) == 2 and entry[0] == "floor":
        _, node = entry
        return (node, 0, 0) if node in weights else None
    if len(entry) != 3:
        return None
    word, node, more = entry
    if word == "pin":
        return _pin_link(weights, node, more)
    if word == "path" and node in weights and isinstance(more, tuple) and len(more) >= depth:
        return _path_link(weights, node, more)
    return None


def _pin_link(weights, node, side):
    """Returns the link of a pin, or None."""
    feeder, weight = _feeder_of(weights, node, side)
    if feeder in weights:
        return feeder, node, weight
    # What is left is an input, which stands for the place 0, or no feeder at all.
    return (0, node, weight) if feeder > 0 else None


def _path_link(weights, start, pins):
    """Returns the link of a path that is long enough, or None if its pins do not follow one another."""
    end = start
    bound = -1
    for node, side in pins:
        feeder, weight = _feeder_of(weights, node, side)
        if feeder != end:
            return None
        end = node
        bound += weight
    return start, end, bound


def _feeder_of(weights, node, side):
    """Returns the feeder and the weight of a pin; the feeder is -1 if it has none or there is no such pin."""
    if node not in weights or side not in (0, 1):
        return -1, 0
    return weights[node][side]
