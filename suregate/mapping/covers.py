"""Circuits mapped onto tables, and netlists as circuits."""

from suregate.errors import InvalidCircuit, InvalidCount
from suregate.graph.builder import Builder
from suregate.graph.circuit import GREATEST_COUNTS, Circuit
from suregate.mapping.labels import Labelling
from suregate.mapping.netlist import Netlist
from suregate.passes.cones import image_with
from suregate.tables.networks import network_for
from suregate.tables.tables import cone_table

LEAST_SIZE = 2
GREATEST_SIZE = 6


class Mapping:
    """A netlist, the literals with which it covers a circuit, the labels of the ands, and the ways to them."""

    def __init__(self, netlist, literals, labels, ways):
        self.netlist = netlist
        self.literals = list(literals)
        self.labels = list(labels)
        self.ways = [[list(way) for way in told] for told in ways]


def map_circuit(circuit, size):
    """Returns a mapping of the circuit; no netlist with tables of so many pins is less deep."""
    if size < LEAST_SIZE or size > GREATEST_SIZE:
        raise InvalidCount("a size is from 2 to 6")
    net = circuit.as_net()
    labelling = Labelling(net, size)
    literals = _needed_literals(circuit, labelling.cuts)
    netlist = _netlist_of(circuit, labelling.cuts, literals)
    return Mapping(netlist, literals, labelling.labels[net.first_and:], labelling.ways[net.first_and:])


def netlist_circuit(netlist):
    """Returns the circuit of the netlist: each table is built from ands."""
    builder = Builder(netlist.first_table)
    images = [2 * signal + 2 for signal in range(netlist.first_table)]
    networks = {}
    for pins, table in netlist.tables:
        known = (table, len(pins))
        if known not in networks:
            networks[known] = network_for(table, len(pins))
        images.append(image_with(builder, images, None, (pins, networks[known])))
        # Nothing else can be wrong with the circuit, and what follows could take long.
        if len(builder.pairs) > GREATEST_COUNTS["ands"]:
            raise InvalidCircuit("ands", GREATEST_COUNTS["ands"])
    latches = [(name, start, images[signal]) for name, start, signal in netlist.registers]
    outputs = [(name, images[signal]) for name, signal in netlist.outputs]
    return Circuit(netlist.inputs, latches, builder.pairs, outputs)


def _needed_literals(circuit, cuts):
    """Returns the literals for which tables are needed, in ascending order."""
    net = circuit.as_net()
    needed = {}
    waiting = [literal for _, literal in net.latches] + [literal for _, literal in circuit.outputs]
    while waiting:
        literal = waiting.pop()
        if literal not in needed and not _is_plain_leaf(net, literal):
            needed[literal] = True
            waiting.extend([2 * node for node in cuts[literal // 2] if node >= net.first_and])
    return sorted(needed)


def _is_plain_leaf(net, literal):
    """Tells whether this is the even literal of an input or a latch, which needs no table."""
    return literal & 1 == 0 and 0 < literal // 2 < net.first_and


def _netlist_of(circuit, cuts, literals):
    """Returns the netlist with a table for each of the literals, over the cut of its node."""
    net = circuit.as_net()
    # The signals of the literals that have one; the inputs and latches come first, as they do among the nodes.
    signals = {2 * node: node - 1 for node in range(1, net.first_and)}
    for literal in literals:
        signals[literal] = len(signals)
    tables = []
    for literal in literals:
        cut = cuts[literal // 2]
        pins = tuple([signals[2 * node] for node in cut])
        tables.append((pins, cone_table(net, literal, cut)))
    registers = [(name, start, signals[literal]) for name, start, literal in circuit.latches]
    outputs = [(name, signals[literal]) for name, literal in circuit.outputs]
    return Netlist(circuit.inputs, registers, tables, outputs)
