"""Balancing: chains of ands made as low as possible."""

from heapq import heappop, heappush

from suregate.graph.builder import Builder, image_of, leaf_images, rebuilt
from suregate.judge.images import image_certificate


def balance(circuit):
    """Returns the balanced circuit and the certificate."""
    after, images = balanced(circuit)
    return after, image_certificate(circuit, after, images, {})


def balanced(circuit):
    """Returns the balanced circuit and the images of all nodes, with None for inner ands."""
    net = circuit.as_net()
    inner = _inner_nodes(circuit)
    builder = Builder(len(circuit.inputs) + len(circuit.latches))
    images = leaf_images(circuit)
    for node in range(net.first_and, net.node_count):
        if inner[node]:
            images.append(None)
        else:
            operands = _operands_of(net, inner, node)
            images.append(_balanced_and(builder, [image_of(images, literal) for literal in operands]))
    return rebuilt(circuit, builder, images), images


def levels(circuit):
    """Returns the levels of all nodes."""
    answers = [0] * circuit.as_net().first_and
    for left, right in circuit.ands:
        answers.append(1 + max(answers[left // 2], answers[right // 2]))
    return answers


def depth(circuit):
    """Returns the greatest level of a next literal or of the literal of an output."""
    answers = levels(circuit)
    return max([answers[literal // 2] for literal in _read_literals(circuit)], default=0)


def _read_literals(circuit):
    """Returns the next literals and the literals of the outputs."""
    return [literal for _, _, literal in circuit.latches] + [literal for _, literal in circuit.outputs]


def _inner_nodes(circuit):
    """Tells for each node whether it is an inner and."""
    net = circuit.as_net()
    uses = [0] * net.node_count
    plain_uses = [0] * net.node_count
    for left, right in net.ands:
        for literal in (left, right):
            uses[literal // 2] += 1
            plain_uses[literal // 2] += 1 - (literal & 1)
    for literal in _read_literals(circuit):
        uses[literal // 2] += 1
    return [
        node >= net.first_and and uses[node] == 1 and plain_uses[node] == 1 for node in range(net.node_count)]


def _operands_of(net, inner, node):
    """Returns the operands of an and."""
    operands = []
    waiting = list(net.ands[node - net.first_and])
    while waiting:
        literal = waiting.pop()
        # The only literal of an inner and is even.
        if inner[literal // 2]:
            waiting.extend(net.ands[literal // 2 - net.first_and])
        else:
            operands.append(literal)
    return operands


def _balanced_and(builder, operands):
    """Returns the literal of the and of the operands, built of two of the lowest ones at a time."""
    present = {}
    queue = []
    for literal in operands:
        if literal == 0 or literal ^ 1 in present:
            return 0
        if literal != 1 and literal not in present:
            present[literal] = True
            heappush(queue, (builder.level_of(literal), literal))
    while len(queue) > 1:
        _, left = heappop(queue)
        _, right = heappop(queue)
        del present[left], present[right]
        literal = builder.both(left, right)
        if literal ^ 1 in present:
            return 0
        if literal not in present:
            present[literal] = True
            heappush(queue, (builder.level_of(literal), literal))
    return queue[0][1] if queue else 1
