"""Refactoring: cones of ands replaced by networks for their tables."""

from suregate.errors import InvalidCut
from suregate.frames.frames import same_clauses
from suregate.graph.builder import rebuilt
from suregate.graph.joining import Joined
from suregate.judge.images import image_certificate
from suregate.passes.cones import images_with
from suregate.passes.settling import Settling
from suregate.runs.packed import row_of
from suregate.tables.cuts import cuts_of
from suregate.tables.networks import network_for
from suregate.tables.tables import add_cone, cone_table, full_table, known_tables

CUT_SIZE = 4
LEAST_NODES = 2
MOST_TRIED_CUTS = 8


def replace_cones(circuit, choice):
    """Returns the circuit refactored by the choice, and the certificate."""
    networks = _checked_cones(circuit.as_net(), choice)
    builder, images = images_with(circuit, networks)
    after = rebuilt(circuit, builder, images)
    joined = Joined(circuit, after)
    extra = {}
    for key in networks:
        leaves = [joined.from_left(2 * node) for node in choice[key]]
        extra[key] = _splitting_lines(leaves, joined.from_left(2 * key), joined.from_right(images[key]))
    return after, image_certificate(circuit, after, images, extra)


def settled_choice(circuit):
    """Returns a choice that no change at one and makes better."""
    cones = _tried_cones(circuit.as_net())
    settling = Settling(circuit)
    improved = True
    while improved:
        improved = False
        for node, tried in cones.items():
            if settling.improve(node, tried):
                improved = True
    return settling.choice()


def refactor(circuit):
    """Returns the circuit refactored by a settled choice, and the certificate."""
    return replace_cones(circuit, settled_choice(circuit))


def _checked_cones(net, choice):
    """Returns for each key its tuple and the network for it; raises InvalidCut for the first invalid key."""
    cones = {}
    for key in sorted(choice):
        if key < net.first_and or key >= net.node_count or not _are_nodes_below(key, choice[key]):
            raise InvalidCut(key)
        try:
            table = cone_table(net, 2 * key, choice[key])
        except InvalidCut:
            raise InvalidCut(key) from None
        cones[key] = (choice[key], network_for(table, len(choice[key])))
    return cones


def _are_nodes_below(key, nodes):
    """Tells whether these are few enough, different nodes without the constant, all smaller than the key."""
    return (len(nodes) <= CUT_SIZE and len(set(nodes)) == len(nodes)
            and all([0 < node < key for node in nodes]))


def _splitting_lines(leaves, x, y):
    """Returns lines that split on the values of the leaves, so that x and y are known, and then join the cases."""
    lines = []
    for count in reversed(range(1, len(leaves) + 1)):
        for number in range(1 << count):
            given = tuple([leaf ^ bit for leaf, bit in zip(leaves, row_of(count, number))])
            lines.extend([given + clause for clause in same_clauses(x, y)])
    return lines


def _tried_cones(net):
    """Returns for each and the cones that are tried: its first cuts of at least two nodes, with their networks."""
    networks = {}
    tables = {}
    answers = {}
    for node, cuts in enumerate(cuts_of(net, CUT_SIZE), start=net.first_and):
        answers[node] = []
        for cut in [nodes for nodes in cuts if len(nodes) >= LEAST_NODES][:MOST_TRIED_CUTS]:
            # The tables over a cut are kept, for many ands can have the same cut.
            known = tables.setdefault(cut, known_tables(cut))
            add_cone(net, node, known, full_table(len(cut)))
            table = (known[node], len(cut))
            if table not in networks:
                networks[table] = network_for(known[node], len(cut))
            answers[node].append((cut, networks[table]))
    return answers
