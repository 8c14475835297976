"""Passes that follow the structure of a circuit: hashing, the rules, and trimming."""

from suregate.graph.builder import Builder, image_of, leaf_images, rebuilt
from suregate.graph.circuit import Circuit
from suregate.judge.images import image_certificate
from suregate.passes.rules import RuleBuilder


def hash_circuit(circuit):
    """Returns the circuit with each and built once, and the certificate."""
    return _carried(circuit, Builder(len(circuit.inputs) + len(circuit.latches)))


def apply_rules(circuit):
    """Returns the circuit built by the rules, and the certificate."""
    return _carried(circuit, RuleBuilder(len(circuit.inputs) + len(circuit.latches)))


def trim(circuit):
    """Returns the circuit without the latches and ands that are not needed, and the certificate."""
    net = circuit.as_net()
    images = _trimmed_images(net, needed_nodes(circuit))
    latches = [
        (name, start, image_of(images, literal))
        for node, (name, start, literal) in enumerate(circuit.latches, start=net.first_latch)
        if images[node] is not None]
    ands = [
        (image_of(images, left), image_of(images, right))
        for node, (left, right) in enumerate(circuit.ands, start=net.first_and)
        if images[node] is not None]
    outputs = [(name, image_of(images, literal)) for name, literal in circuit.outputs]
    after = Circuit(circuit.inputs, latches, ands, outputs)
    return after, image_certificate(circuit, after, images, {})


def needed_nodes(circuit):
    """Tells for each node whether it is needed."""
    net = circuit.as_net()
    needed = [False] * net.node_count
    waiting = [literal // 2 for _, literal in circuit.outputs]
    while waiting:
        node = waiting.pop()
        if not needed[node]:
            needed[node] = True
            waiting.extend([literal // 2 for literal in _sources_of(net, node)])
    return needed


def and_count(circuit):
    """Returns the number of ands that are needed."""
    return sum(needed_nodes(circuit)[circuit.as_net().first_and:])


def _carried(circuit, builder):
    """Returns the circuit carried over to the builder, and the certificate; the builder gets its ands."""
    images = leaf_images(circuit)
    for left, right in circuit.ands:
        images.append(builder.both(image_of(images, left), image_of(images, right)))
    after = rebuilt(circuit, builder, images)
    return after, image_certificate(circuit, after, images, {})


def _trimmed_images(net, needed):
    """Returns the images of the constant, the inputs and all that is needed, which is numbered anew; else None."""
    images = []
    count = 0
    for node in range(net.node_count):
        if node < net.first_latch or needed[node]:
            images.append(2 * count)
            count += 1
        else:
            images.append(None)
    return images


def _sources_of(net, node):
    """Returns the literals that a node reads: the pair of an and, the next literal of a latch."""
    if node >= net.first_and:
        return net.ands[node - net.first_and]
    if node >= net.first_latch:
        return net.latches[node - net.first_latch][1:]
    return ()
