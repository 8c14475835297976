"""The search for a settled choice of cones."""

from heapq import heappop, heappush

from suregate.graph.builder import image_of, leaf_images
from suregate.graph.circuit import GREATEST_COUNTS
from suregate.passes.cones import image_with, images_with
from suregate.passes.shapes import Shapes


class Settling:
    """A choice of cones for the ands of a circuit, with the images under it; its methods change it.

    A cone is a pair of a tuple of nodes and a network. Only what hangs on a change is built again.
    """

    def __init__(self, circuit):
        self._circuit = circuit
        self._net = circuit.as_net()
        self._cones = {}
        supports = [0] * self._net.input_count + [1 << index for index in range(len(self._net.latches))]
        self._shapes = Shapes(self._net.first_and - 1, supports)
        self._images = leaf_images(circuit)
        # For each node the ands whose images are built of its image.
        self._readers = [{} for _ in range(self._net.node_count)]
        for node, pair in enumerate(list(self._net.ands), start=self._net.first_and):
            self._images.append(image_with(self._shapes, self._images, pair, None))
            for source in list(self._sources_of(node)):
                self._readers[source][node] = True
        self._held = self._needed_images()
        for literal in list(self._held):
            self._shapes.hold(literal)

    def choice(self):
        """Returns the tuples of the cones, by their ands."""
        return {node: cut for node, (cut, _) in self._cones.items()}

    def improve(self, node, cones):
        """Tries for an and each of the cones, and None; keeps what gives a lower count. Tells whether one did."""
        improved = False
        for cone in [None] + cones:
            if cone != self._cones.get(node) and self._try(node, cone):
                improved = True
        return improved

    def _try(self, node, cone):
        """Takes the cone for the and if the count is lower then; tells whether it is."""
        made = len(self._shapes.pairs)
        pair = self._net.ands[node - self._net.first_and]
        image = image_with(self._shapes, self._images, pair, cone)
        taken = self._may_be_lower(self._images[node], image, made) and self._take(node, cone)
        if not taken:
            self._shapes.take_back(made)
        return taken

    def _may_be_lower(self, old, new, made):
        """Tells whether the count may be lower with a new image of an and; the first so many shapes were made before.

        If the shape of the new image was just made, then whatever is built on it is new as well: it can be like
        something else, or be no and, only if it was so with the old image. So not less is needed than if all that
        read the old image read the new one. Latches that are not needed any more could mean that less is needed.
        """
        shapes = self._shapes
        if new == old:
            return False
        if new // 2 <= shapes.leaf_count + made or shapes.supports_of(old) & ~shapes.supports_of(new):
            return True
        return shapes.count_instead(old, new) < shapes.live

    def _take(self, node, cone):
        """Takes the cone for the and; takes it back and returns False if the count is not lower."""
        count = self._shapes.live
        old_cone = self._cones.get(node)
        self._set_cone(node, cone)
        replaced = self._build_again(node)
        held = self._needed_images()
        self._hold_instead(self._held, held)
        if self._shapes.live < count and self._is_circuit():
            self._held = held
            return True
        self._hold_instead(held, self._held)
        for place, image in replaced:
            self._images[place] = image
        self._set_cone(node, old_cone)
        return False

    def _set_cone(self, node, cone):
        """Notes the cone for the and, or None, and what it reads."""
        for source in list(self._sources_of(node)):
            # The two literals of an and may belong to one node.
            self._readers[source].pop(node, None)
        if cone is None:
            self._cones.pop(node, None)
        else:
            self._cones[node] = cone
        for source in list(self._sources_of(node)):
            self._readers[source][node] = True

    def _sources_of(self, node):
        """Returns the nodes whose images the image of an and is built of."""
        if node in self._cones:
            cut, _ = self._cones[node]
            return cut
        left, right = self._net.ands[node - self._net.first_and]
        return left // 2, right // 2

    def _build_again(self, node):
        """Builds the image of the and again, and those that change with it; returns the pairs of node and old image."""
        replaced = []
        queue = [node]
        queued = {node: True}
        while queue:
            place = heappop(queue)
            pair = self._net.ands[place - self._net.first_and]
            image = image_with(self._shapes, self._images, pair, self._cones.get(place))
            if image != self._images[place]:
                replaced.append((place, self._images[place]))
                self._images[place] = image
                for reader in self._readers[place]:
                    if reader not in queued:
                        queued[reader] = True
                        heappush(queue, reader)
        return replaced

    def _needed_images(self):
        """Returns the images of the outputs and of the next literals of all latches, 0 for latches not needed."""
        images = [image_of(self._images, literal) for _, literal in self._circuit.outputs]
        nexts = [image_of(self._images, literal) for _, literal in self._net.latches]
        needed = 0
        for image in images:
            needed |= self._shapes.supports_of(image)
        waiting = needed
        while waiting:
            index = waiting.bit_length() - 1
            more = self._shapes.supports_of(nexts[index]) & ~needed
            needed |= more
            waiting = (waiting ^ (1 << index)) | more
        return images + [image if (needed >> index) & 1 else 0 for index, image in enumerate(nexts)]

    def _hold_instead(self, old, new):
        """Holds the new literals instead of the old ones, place by place."""
        for before, after in zip(old, new):
            if before != after:
                self._shapes.hold(after)
                self._shapes.release(before)

    def _is_circuit(self):
        """Tells whether refactoring by this choice gives a circuit; otherwise it has too many ands."""
        most = len(self._net.ands) + sum([len(network[0]) for _, network in self._cones.values()])
        if most <= GREATEST_COUNTS["ands"]:
            return True
        builder, _ = images_with(self._circuit, self._cones)
        return len(builder.pairs) <= GREATEST_COUNTS["ands"]
