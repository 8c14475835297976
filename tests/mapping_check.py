"""Slow ways to tell labels, ways and covers, as [84] to [86] tell them."""

import itertools

from helpers import cuts_off


def is_way(net, way, node):
    """Tells whether this is a way to an and."""
    if len(way) < 2 or way[-1] != node or not 1 <= way[0] < net.first_and:
        return False
    for before, following in zip(way, way[1:]):
        if not net.first_and <= following < net.node_count:
            return False
        if before not in [literal // 2 for literal in net.ands[following - net.first_and]]:
            return False
    return True


def share_no(ways, allowed):
    """Tells whether each of the allowed nodes is on at most one of the ways."""
    nodes = [node for way in ways for node in set(way) if node in allowed]
    return len(nodes) == len(set(nodes))


def least_cut(net, node, allowed, size):
    """Returns a cut of an and with the fewest nodes, all of them allowed, or None if all have more than so many."""
    for count in range(size + 1):
        for nodes in itertools.combinations(sorted(allowed), count):
            if cuts_off(net, nodes, node):
                return nodes
    return None


def slow_labels(net, size):
    """Returns the labels of the ands, by trying all sets of nodes as cuts; the net is small."""
    labels = [0] * net.first_and
    for node in range(net.first_and, net.node_count):
        tried = [
            1 + max([labels[place] for place in nodes], default=0)
            for count in range(size + 1) for nodes in itertools.combinations(range(1, node), count)
            if cuts_off(net, nodes, node)]
        labels.append(min(tried))
    return labels[net.first_and:]


def covered_literals(circuit, netlist, literals):
    """Returns the literals for which the signals of a netlist stand."""
    leaf_count = len(circuit.inputs) + len(circuit.latches)
    return [2 * node for node in range(1, leaf_count + 1)] + list(literals)


def table_fits(net, stands_for, signal, pins, table):
    """Tells whether a table is as [84] says, by trying all values of the nodes of its pins."""
    nodes = sorted({stands_for[pin] // 2 for pin in pins} - {0})
    target = stands_for[signal]
    if not cuts_off(net, nodes, target // 2):
        return False
    for bits in itertools.product((0, 1), repeat=len(nodes)):
        values = {0: 0, **dict(zip(nodes, bits))}
        for node, (left, right) in enumerate(net.ands, start=net.first_and):
            if node not in values and left // 2 in values and right // 2 in values:
                values[node] = (values[left // 2] ^ left & 1) & (values[right // 2] ^ right & 1)
        point = sum((values[stands_for[pin] // 2] ^ stands_for[pin] & 1) << leaf for leaf, pin in enumerate(pins))
        if table >> point & 1 != values[target // 2] ^ target & 1:
            return False
    return True


def slow_fault_of_cover(circuit, netlist, literals):
    """Returns the fault of a cover, as the document tells it."""
    net = circuit.as_net()
    latches = [latch[:2] for latch in circuit.latches]
    if (circuit.inputs != netlist.inputs or latches != [told[:2] for told in netlist.registers]
            or [name for name, _ in circuit.outputs] != [name for name, _ in netlist.outputs]):
        return "interface", 0
    for index in range(max(len(literals), len(netlist.tables))):
        if index >= min(len(literals), len(netlist.tables)) or not 0 <= literals[index] < 2 * net.node_count:
            return "literals", index
    stands_for = covered_literals(circuit, netlist, literals)
    first = len(stands_for) - len(literals)
    for index, (pins, table) in enumerate(netlist.tables):
        if not table_fits(net, stands_for, first + index, pins, table):
            return "tables", index
    for index, (told, latch) in enumerate(zip(netlist.registers, circuit.latches)):
        if stands_for[told[2]] != latch[2]:
            return "registers", index
    for index, (told, output) in enumerate(zip(netlist.outputs, circuit.outputs)):
        if stands_for[told[1]] != output[1]:
            return "outputs", index
    return None


def slow_fault_of_ways(circuit, size, labels, ways):
    """Returns the fault of labels and ways, as the document tells it."""
    net = circuit.as_net()
    for index in range(max(len(net.ands), len(labels), len(ways))):
        if index >= min(len(net.ands), len(labels), len(ways)) or labels[index] < 0:
            return index
        node = net.first_and + index
        if labels[index] <= 1:
            if ways[index]:
                return index
            continue
        known = [0] * net.first_and + labels
        allowed = {place for place in range(1, node) if known[place] <= labels[index] - 2}
        if (len(ways[index]) != size + 1 or not all(is_way(net, way, node) for way in ways[index])
                or not share_no(ways[index], allowed)):
            return index
    return None
