"""Certificates that lead each node of a circuit to its image."""

from suregate.frames.frames import same_clauses
from suregate.graph.joining import Joined
from suregate.judge.certificate import AlikeCertificate


def image_certificate(before, after, images, extra):
    """Returns the certificate by images, with the extra clauses ahead of those of the and that they are given for."""
    joined = Joined(before, after)
    net = before.as_net()
    facts = []
    for node in range(net.first_latch, net.first_and):
        facts.extend(_image_clauses(joined, node, images[node]))
    lines = []
    for node in range(net.first_and, net.node_count):
        if images[node] is not None:
            lines.extend(extra.get(node, []))
            lines.extend(_image_clauses(joined, node, images[node]))
    return AlikeCertificate(facts, [], lines, [])


def _image_clauses(joined, node, image):
    """Returns the clauses that say that a node is the same as its image; none if it has no image."""
    if image is None:
        return []
    return same_clauses(joined.from_left(2 * node), joined.from_right(image))
