"""Sweeping: of all nodes with the same or complementary functions, only the first is kept."""

from suregate.graph.builder import image_of
from suregate.graph.circuit import Circuit
from suregate.graph.joining import Joined
from suregate.judge.images import image_certificate
from suregate.runs.packed import all_rows
from suregate.runs.scattered import scattered_words
from suregate.sweep.classes import Classes
from suregate.sweep.likeness import Likeness

# With so few inputs and latches all their values are tried, and otherwise so many of them at first.
FEW_LEAVES = 10
FIRST_CASES = 512


def like_literals(circuit):
    """Returns the like literals of all nodes."""
    likes, _ = _likes_and_lines(circuit.as_net())
    return likes


def sweep(circuit):
    """Returns the circuit with one node for each function, and the certificate."""
    likes, lines = _likes_and_lines(circuit.as_net())
    images = _images_of(likes)
    after = _kept_circuit(circuit, likes, images)
    joined = Joined(circuit, after)
    extra = {
        node: [tuple([joined.from_left(literal) for literal in line]) for line in told]
        for node, told in lines.items()}
    return after, image_certificate(circuit, after, images, extra)


def _likes_and_lines(net):
    """Returns the like literals of all nodes, and a dict with the lines that were learned for each node."""
    leaf_count = net.first_and - 1
    case_count = FIRST_CASES
    if leaf_count <= FEW_LEAVES:
        case_count = 1 << leaf_count
        leaf_words = all_rows(leaf_count)
    else:
        leaf_words = scattered_words(leaf_count, case_count)
    likeness = Likeness(net, [])
    classes = Classes(net, likeness, leaf_words, case_count, leaf_count)
    likes = []
    lines = {}
    line_count = 0
    for node in range(net.node_count):
        likes.append(classes.like_literal(node))
        lines[node] = likeness.lines_since(line_count)
        line_count += len(lines[node])
    return likes, lines


def _images_of(likes):
    """Returns the images of all nodes: the nodes that are kept are numbered anew, in order."""
    images = []
    count = 0
    for node, literal in enumerate(likes):
        if literal == 2 * node:
            images.append(2 * count)
            count += 1
        else:
            images.append(image_of(images, literal))
    return images


def _kept_circuit(circuit, likes, images):
    """Returns the circuit with only the ands that are kept."""
    latches = [(name, start, image_of(images, literal)) for name, start, literal in circuit.latches]
    ands = [
        (image_of(images, left), image_of(images, right))
        for node, (left, right) in enumerate(circuit.ands, start=circuit.as_net().first_and)
        if likes[node] == 2 * node]
    outputs = [(name, image_of(images, literal)) for name, literal in circuit.outputs]
    return Circuit(circuit.inputs, latches, ands, outputs)
