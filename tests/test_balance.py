"""Promises [45] and [8]: balancing, levels and depth."""

import unittest

from helpers import edge_circuits, plain, random_circuit, tree_circuit
from passes_check import check_pass

from suregate.frames.frames import same_clauses
from suregate.graph.builder import Builder, image_of, leaf_images, rebuilt
from suregate.graph.circuit import Circuit
from suregate.graph.joining import Joined
from suregate.passes.balance import balance, balanced, depth, levels


def some_circuits():
    return (edge_circuits() + [tree_circuit(seed) for seed in range(60)]
            + [random_circuit(seed, 3, seed % 3, 20, 3) for seed in range(30)])


def slow_inner(circuit):
    """Tells for each node whether it is an inner and, with all occurrences written out."""
    in_pairs = [literal for pair in circuit.ands for literal in pair]
    others = [literal for _, _, literal in circuit.latches] + [literal for _, literal in circuit.outputs]
    answers = []
    for node in range(circuit.as_net().node_count):
        found = [literal for literal in in_pairs + others if literal // 2 == node]
        is_and = node >= circuit.as_net().first_and
        answers.append(is_and and len(found) == 1 and 2 * node in in_pairs)
    return answers


def slow_operands(circuit, inner, node):
    """Returns the operands of an and, by recursion."""
    operands = []
    for literal in circuit.ands[node - circuit.as_net().first_and]:
        if inner[literal // 2]:
            operands += slow_operands(circuit, inner, literal // 2)
        else:
            operands.append(literal)
    return operands


def slow_image(builder, operands):
    """Returns the image of an and, as [45] tells it, with a list that is sorted again and again."""
    left = set(operands) - {1}
    if 0 in left or any(literal ^ 1 in left for literal in left):
        return 0
    while len(left) > 1:
        one, other = sorted(left, key=lambda literal: (builder.level_of(literal), literal))[:2]
        left -= {one, other}
        made = builder.both(one, other)
        if made == 0 or made ^ 1 in left:
            return 0
        left.add(made)
    return left.pop() if left else 1


def slow_balanced(circuit):
    net = circuit.as_net()
    inner = slow_inner(circuit)
    builder = Builder(net.first_and - 1)
    images = leaf_images(circuit)
    for node in range(net.first_and, net.node_count):
        if inner[node]:
            images.append(None)
        else:
            operands = slow_operands(circuit, inner, node)
            images.append(slow_image(builder, [image_of(images, literal) for literal in operands]))
    return rebuilt(circuit, builder, images), images


def slow_level(circuit, node):
    """Returns the level of a node, from below."""
    told = [0] * circuit.as_net().first_and
    for left, right in circuit.ands:
        told.append(1 + max(told[left // 2], told[right // 2]))
    return told[node]


class BalanceTest(unittest.TestCase):
    def check_images(self, ands, outputs, images, new_ands, latches=(), names="abcdefgh"):
        """Checks the images of the ands and the new ands."""
        circuit = Circuit(list(names), list(latches), ands, outputs)
        after, found = balanced(circuit)
        first_and = circuit.as_net().first_and
        self.assertEqual([2 * node for node in range(first_and)], found[:first_and])
        self.assertEqual(images, found[first_and:])
        self.assertEqual(new_ands, after.ands)
        return after

    def test_what_holds_for_every_pass(self):
        for circuit in some_circuits():
            after, certificate = check_pass(self, balance, circuit)
            before = plain(circuit)
            told, images = balanced(circuit)
            self.assertEqual(before, plain(circuit))
            self.assertTrue(told == after)
            self.assertLessEqual(depth(after), depth(circuit))
            joined = Joined(circuit, after)
            clauses = [
                [] if image is None else same_clauses(joined.from_left(2 * node), joined.from_right(image))
                for node, image in enumerate(images)]
            net = circuit.as_net()
            self.assertEqual(sum(clauses[net.first_latch:net.first_and], []), certificate.facts)
            self.assertEqual(sum(clauses[net.first_and:], []), certificate.lines)
            self.assertEqual([], certificate.start_lines + certificate.next_lines)

    def test_the_document_word_for_word(self):
        inner_ands = 0
        for circuit in some_circuits():
            after, images = balanced(circuit)
            expected, expected_images = slow_balanced(circuit)
            self.assertEqual(expected_images, images)
            self.assertTrue(expected == after)
            self.assertEqual(slow_inner(circuit), [image is None for image in images])
            inner_ands += images.count(None)
        self.assertGreater(inner_ands, 300)

    def test_levels_are_least(self):
        for circuit in some_circuits():
            after, images = balanced(circuit)
            inner = slow_inner(circuit)
            for node in range(circuit.as_net().first_and, circuit.as_net().node_count):
                if images[node] is not None:
                    operands = {image_of(images, literal) for literal in slow_operands(circuit, inner, node)}
                    total = sum(2 ** slow_level(after, literal // 2) for literal in operands)
                    self.assertLessEqual(2 ** slow_level(after, images[node] // 2), max(1, 2 * total - 1))

    def test_a_chain_becomes_a_tree(self):
        ands = [(2, 4), (18, 6), (20, 8), (22, 10), (24, 12), (26, 14), (28, 16)]
        after = self.check_images(
            ands, [("y", 30)], [None] * 6 + [30],
            [(2, 4), (6, 8), (10, 12), (14, 16), (18, 20), (22, 24), (26, 28)])
        self.assertEqual(3, depth(after))
        self.assertEqual([("y", 30)], after.outputs)

    def test_the_lowest_two_come_first(self):
        # The and of a and b is read twice, so it is an operand of level 1 and comes last.
        ands = [(3, 4), (18, 6), (20, 8), (22, 10), (18, 18)]
        after = self.check_images(
            ands, [("y", 24), ("z", 26)], [18, None, None, 24, 18], [(3, 4), (6, 8), (10, 18), (20, 22)])
        self.assertEqual([("y", 24), ("z", 18)], after.outputs)

    def test_smaller_literals_first_at_equal_levels(self):
        ands = [(16, 7), (6, 18), (11, 20), (13, 22)]
        self.check_images(
            [(16, 9), (6, 18), (11, 20), (13, 22)], [("y", 24)], [None, None, None, 24],
            [(6, 9), (11, 13), (16, 18), (20, 22)])
        # A complement among the operands.
        self.check_images(ands, [("y", 24)], [None, None, None, 0], [])

    def test_literals_that_are_not_inner(self):
        # Read twice in one pair, twice in two pairs, complemented, by a latch, by an output, by nothing.
        self.check_images([(2, 4), (18, 18), (20, 6)], [("y", 22)], [18, None, 20], [(2, 4), (6, 18)])
        self.check_images([(2, 4), (18, 6), (18, 8)], [("y", 20), ("z", 22)], [18, 20, 22], [(2, 4), (6, 18), (8, 18)])
        self.check_images([(2, 4), (19, 6)], [("y", 20)], [18, 20], [(2, 4), (6, 19)])
        self.check_images([(2, 4), (18, 6)], [("y", 20), ("z", 18)], [18, 20], [(2, 4), (6, 18)])
        self.check_images([(2, 4), (18, 6)], [("y", 20), ("z", 19)], [18, 20], [(2, 4), (6, 18)])
        self.check_images([(2, 4), (20, 6)], [("y", 22)], [20, 22], [(2, 4), (6, 20)], [("p", 0, 20)])
        self.check_images([(2, 4), (20, 6)], [("y", 22)], [20, 22], [(2, 4), (6, 20)], [("p", 0, 21)])
        self.check_images([(2, 4), (6, 8)], [("y", 20)], [18, 20], [(2, 4), (6, 8)])
        self.check_images([(2, 4), (18, 6)], [], [None, 20], [(2, 4), (6, 18)])
        self.check_images([(2, 4)], [("y", 19)], [18], [(2, 4)])

    def test_equal_operands_count_once(self):
        self.check_images([(2, 4), (18, 2), (20, 20)], [("y", 22)], [None, 18, 18], [(2, 4)])
        self.check_images([(5, 5)], [("y", 18)], [5], [])
        self.check_images([(4, 2), (18, 4)], [("y", 20)], [None, 18], [(2, 4)])

    def test_the_literal_1(self):
        self.check_images([(1, 2), (18, 1)], [("y", 20)], [None, 2], [])
        self.check_images([(1, 1), (18, 1)], [("y", 20)], [None, 1], [])
        self.check_images([(1, 1), (18, 18), (20, 4)], [("y", 22)], [1, None, 4], [])

    def test_the_literal_0(self):
        self.check_images([(2, 4), (18, 0)], [("y", 20)], [None, 0], [])
        self.check_images([(0, 4), (18, 6), (20, 8)], [("y", 22)], [None, None, 0], [])

    def test_a_literal_and_its_complement(self):
        self.check_images([(2, 4), (18, 3)], [("y", 20)], [None, 0], [])
        self.check_images([(2, 4), (5, 6), (18, 20)], [("y", 22)], [None, None, 0], [])

    def test_operands_that_the_joining_makes_equal(self):
        # The and of a and b is there, and the joining of a and b makes it once more.
        self.check_images(
            [(2, 4), (18, 2), (20, 4)], [("y", 22), ("z", 18)], [18, None, 18], [(2, 4)])
        self.check_images(
            [(2, 4), (18, 2), (20, 4), (22, 6)], [("y", 24), ("z", 18)], [18, None, None, 20], [(2, 4), (6, 18)])

    def test_operands_that_the_joining_makes_complementary(self):
        self.check_images(
            [(2, 4), (19, 2), (20, 4)], [("y", 22)], [18, None, 0], [(2, 4)])
        # Here the joining of c and d comes after that of a and b, which stays, though nothing needs it.
        self.check_images(
            [(6, 8), (19, 2), (20, 4), (22, 6), (24, 8)], [("y", 26)], [18, None, None, None, 0], [(6, 8), (2, 4)])

        # Of the three operands of level 1 that are then left, the first one is neither of the two that are complementary.
        self.check_images(
            [(6, 8), (2, 4), (2, 18), (22, 4), (24, 21)], [("y", 26), ("z", 18), ("w", 20)],
            [18, 20, None, None, 0], [(6, 8), (2, 4)])

    def test_deep_chains(self):
        ands = [(2, 4)] + [(2 * (node - 1), 4 + 2 * (node % 7)) for node in range(10, 2000)]
        circuit = Circuit(list("abcdefgh"), [], ands, [("y", 2 * (8 + len(ands)))])
        after, _ = check_pass(self, balance, circuit)
        self.assertEqual(len(ands), depth(circuit))
        self.assertEqual(3, depth(after))
        self.assertEqual(7, len(after.ands))


class LevelsTest(unittest.TestCase):
    def test_levels(self):
        circuit = Circuit(["a"], [("p", 0, 3)], [(2, 5), (0, 1), (6, 9), (11, 2), (7, 4)], [("y", 2)])
        self.assertEqual([0, 0, 0, 1, 1, 2, 3, 2], levels(circuit))
        self.assertEqual([0], levels(Circuit([], [], [], [])))
        for circuit in some_circuits():
            before = plain(circuit)
            told = levels(circuit)
            self.assertEqual([slow_level(circuit, node) for node in range(circuit.as_net().node_count)], told)
            outputs = [told[literal // 2] for _, literal in circuit.outputs]
            nexts = [told[literal // 2] for _, _, literal in circuit.latches]
            self.assertEqual(max(outputs + nexts, default=0), depth(circuit))
            self.assertEqual(before, plain(circuit))

    def test_depth(self):
        ands = [(2, 4), (6, 2), (9, 4)]
        self.assertEqual(3, depth(Circuit(["a", "b"], [], ands, [("y", 10)])))
        self.assertEqual(3, depth(Circuit(["a", "b"], [], ands, [("x", 6), ("y", 11), ("z", 2)])))
        self.assertEqual(1, depth(Circuit(["a", "b"], [], ands, [("x", 6)])))
        self.assertEqual(3, depth(Circuit(["a"], [("p", 0, 10)], ands, [("x", 6)])))
        self.assertEqual(2, depth(Circuit(["a"], [("p", 0, 9)], ands, [("x", 6)])))

    def test_circuits_without_next_literals_and_outputs(self):
        self.assertEqual(0, depth(Circuit(["a", "b"], [], [(2, 4), (6, 2)], [])))
        self.assertEqual(0, depth(Circuit([], [], [], [])))
        self.assertEqual(0, depth(Circuit(["a"], [("p", 0, 4)], [(2, 4)], [("y", 3)])))

    def test_lists_are_new(self):
        circuit = tree_circuit(1)
        told = levels(circuit)
        told.clear()
        self.assertEqual(circuit.as_net().node_count, len(levels(circuit)))


if __name__ == "__main__":
    unittest.main()
