"""Circuits built again with networks in the place of cones of ands."""

from suregate.graph.builder import Builder, image_of, leaf_images


def images_with(circuit, networks):
    """Builds the ands of the circuit again; returns the builder and the images of all nodes.

    For some ands, the dict of networks has the nodes that cut off the and, and a network over these.
    """
    net = circuit.as_net()
    builder = Builder(net.first_and - 1)
    images = leaf_images(circuit)
    for node in range(net.first_and, net.node_count):
        images.append(image_with(builder, images, net.ands[node - net.first_and], networks.get(node)))
    return builder, images


def image_with(builder, images, pair, cone):
    """Returns the image of an and: of its pair, or of the nodes and the network of its cone; the builder may grow."""
    if cone is None:
        left, right = pair
        return builder.both(image_of(images, left), image_of(images, right))
    nodes, (pairs, literal) = cone
    built = [0] + [images[node] for node in nodes]
    for left, right in pairs:
        built.append(builder.both(image_of(built, left), image_of(built, right)))
    return image_of(built, literal)
