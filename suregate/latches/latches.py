"""Merging latches: each latch is led to the first one that it always equals, or whose complement, or to a constant."""

from suregate.graph.builder import Builder, image_of
from suregate.graph.circuit import Circuit
from suregate.graph.joining import Joined
from suregate.judge.certificate import AlikeCertificate
from suregate.judge.images import image_certificate
from suregate.latches.partition import Partition


def steady_literals(circuit):
    """Returns the steady literals of all latches."""
    net = circuit.as_net()
    partition = Partition(net)
    return [partition.steady_literal(node) for node in range(net.first_latch, net.first_and)]


def merge_latches(circuit):
    """Returns the circuit with merged latches, and the certificate."""
    net = circuit.as_net()
    partition = Partition(net)
    images = [2 * node for node in range(net.first_latch)]
    kept = []
    for node, latch in enumerate(circuit.latches, start=net.first_latch):
        steady = partition.steady_literal(node)
        if steady == 2 * node:
            images.append(2 * (net.first_latch + len(kept)))
            kept.append(latch)
        else:
            images.append(image_of(images, steady))
    builder = Builder(net.input_count + len(kept))
    for left, right in net.ands:
        images.append(builder.both(image_of(images, left), image_of(images, right)))
    latches = [(name, start, image_of(images, literal)) for name, start, literal in kept]
    outputs = [(name, image_of(images, literal)) for name, literal in circuit.outputs]
    after = Circuit(circuit.inputs, latches, builder.pairs, outputs)
    return after, _certificate(circuit, after, images, partition.lines)


def _certificate(before, after, images, lines):
    """Returns the certificate by images, with the lines of the circuit before ahead of its lines."""
    joined = Joined(before, after)
    first_lines = [tuple([joined.from_left(literal) for literal in line]) for line in lines]
    certificate = image_certificate(before, after, images, {})
    return AlikeCertificate(certificate.facts, [], first_lines + certificate.lines, [])
