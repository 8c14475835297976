"""Builders, which make the ands of a new circuit, and circuits rebuilt with them."""

from suregate.graph.circuit import Circuit


class Builder:
    """Makes the ands of a new circuit over a number of leaves; its methods of building change it."""

    def __init__(self, leaf_count):
        self.leaf_count = leaf_count
        self.pairs = []
        self._literals = {}
        self._levels = [0] * (leaf_count + 1)

    def pair_of(self, literal):
        """Returns the pair of the literal's and, or None for a leaf or the constant."""
        index = literal // 2 - self.leaf_count - 1
        if index < 0:
            return None
        return self.pairs[index]

    def level_of(self, literal):
        """Returns the level of the literal's node."""
        return self._levels[literal // 2]

    def both(self, left, right):
        """Returns the literal of the and of two literals; may make an and."""
        if left == 0 or right == 0 or left == right ^ 1:
            return 0
        if left == 1:
            return right
        if right == 1 or left == right:
            return left
        pair = (min(left, right), max(left, right))
        if pair not in self._literals:
            self._literals[pair] = self._make(pair)
        return self._literals[pair]

    def either(self, left, right):
        """Returns the literal of the or of two literals."""
        return self.both(left ^ 1, right ^ 1) ^ 1

    def unlike(self, left, right):
        """Returns the literal of the exclusive or of two literals."""
        only_left = self.both(left, right ^ 1)
        only_right = self.both(left ^ 1, right)
        return self.either(only_left, only_right)

    def choose(self, test, yes, no):
        """Returns the literal of the choice by the test between two literals."""
        chosen_yes = self.both(test, yes)
        chosen_no = self.both(test ^ 1, no)
        return self.either(chosen_yes, chosen_no)

    def _make(self, pair):
        """Makes a new and and returns its even literal."""
        left, right = pair
        self.pairs.append(pair)
        self._levels.append(1 + max(self.level_of(left), self.level_of(right)))
        return 2 * (self.leaf_count + len(self.pairs))


def image_of(images, literal):
    """Returns the image of the literal."""
    return images[literal // 2] ^ (literal & 1)


def leaf_images(circuit):
    """Returns the even literals of the constant, the inputs and the latches."""
    return [2 * node for node in range(circuit.as_net().first_and)]


def rebuilt(circuit, builder, images):
    """Returns the circuit with the builder's ands, each literal replaced by its image."""
    latches = [(name, start, image_of(images, literal)) for name, start, literal in circuit.latches]
    outputs = [(name, image_of(images, literal)) for name, literal in circuit.outputs]
    return Circuit(circuit.inputs, latches, builder.pairs, outputs)
