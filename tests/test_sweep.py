"""Promises [57] to [60]: sweeping, so that one node is left for each function."""

import itertools
import unittest

from helpers import SuregateTest, edge_circuits, plain, random_circuit, tree_circuit
from passes_check import check_pass

from suregate.frames.frames import same_clauses
from suregate.graph.builder import Builder, image_of
from suregate.graph.circuit import Circuit
from suregate.graph.joining import Joined
from suregate.runs.plain import node_values
from suregate.runs.scattered import scattered_words
from suregate.sweep.sweep import like_literals, sweep


def slow_likes(circuit):
    """Returns the like literals of all nodes, by trying all values of the inputs and latches."""
    net = circuit.as_net()
    rows = [
        node_values(net, list(bits[:len(net.latches)]), list(bits[len(net.latches):]))
        for bits in itertools.product((0, 1), repeat=net.first_and - 1)]
    literals = {}
    answers = []
    for values in zip(*rows):
        node = len(answers)
        answers.append(literals.setdefault(values, 2 * node))
        literals.setdefault(tuple(1 - value for value in values), answers[node] ^ 1)
    return answers


def slow_swept(circuit, likes):
    """Returns the swept circuit and the images of all nodes, given the like literals."""
    net = circuit.as_net()
    kept = [node for node in range(net.node_count) if likes[node] == 2 * node]
    images = [2 * kept.index(literal // 2) + literal % 2 for literal in likes]
    return Circuit(
        circuit.inputs, [(name, start, image_of(images, literal)) for name, start, literal in circuit.latches],
        [
            (image_of(images, left), image_of(images, right))
            for node, (left, right) in enumerate(circuit.ands, start=net.first_and) if node in kept],
        [(name, image_of(images, literal)) for name, literal in circuit.outputs]), images


# Eight-bit sums of two words, built in two ways; no node of the one is a node of the other.
def two_sums(width):
    builder = Builder(2 * width)
    outputs = []
    carries = [0, 0]
    for place in range(width):
        x, y = 2 + 4 * place, 4 + 4 * place
        one = builder.unlike(builder.unlike(x, y), carries[0])
        two = builder.unlike(x, builder.unlike(carries[1], y))
        carries[0] = builder.either(builder.both(x, y), builder.both(carries[0], builder.either(x, y)))
        carries[1] = builder.choose(x, builder.either(y, carries[1]), builder.both(y, carries[1]))
        outputs += [(f"s{place}", one), (f"t{place}", two ^ place & 1)]
    inputs = [f"i{place}" for place in range(width)]
    latches = [(f"q{place}", 0, 2 + 2 * place) for place in range(width)]
    return Circuit(inputs, latches, builder.pairs, outputs)


class SweepTest(SuregateTest):
    def check(self, circuit):
        """Checks the like literals, the swept circuit and its certificate; returns the like literals."""
        before = plain(circuit)
        likes = like_literals(circuit)
        self.assertEqual(before, plain(circuit))
        self.assertEqual(slow_likes(circuit), likes)
        self.check_sweep(circuit, likes)
        return likes

    def check_sweep(self, circuit, likes):
        """Checks the swept circuit and its certificate, given the like literals."""
        net = circuit.as_net()
        after, certificate = check_pass(self, sweep, circuit)
        expected, images = slow_swept(circuit, likes)
        self.assertEqual(plain(expected), plain(after))
        self.assertLessEqual(len(after.ands), len(circuit.ands))
        self.assertEqual([2 * node for node in range(after.as_net().node_count)], like_literals(after))
        self.assertTrue(sweep(after)[0] == after)
        joined = Joined(circuit, after)
        facts = []
        for node in range(net.first_latch, net.first_and):
            facts += same_clauses(joined.from_left(2 * node), joined.from_right(2 * node))
        self.assertEqual(facts, certificate.facts)
        self.assertEqual([], certificate.start_lines)
        self.assertEqual([], certificate.next_lines)
        for node in range(net.first_and, net.node_count):
            for clause in same_clauses(joined.from_left(2 * node), joined.from_right(images[node])):
                self.assertIn(clause, certificate.lines)

    def test_by_hand(self):
        # 4: a and b, 5: constant, 6: a, 7: the complement of 4 as an and, 8: q, 9: 4 and q, 10: a and q, 11: 4 again.
        circuit = Circuit(
            ["a", "b"], [("q", 1, 21)],
            [(2, 4), (8, 3), (2, 11), (9, 1), (6, 6), (8, 6), (2, 6), (15, 12), (18, 5)], [("y", 14), ("z", 23)])
        likes = self.check(circuit)
        self.assertEqual([0, 2, 4, 6, 8, 0, 2, 9, 6, 18, 20, 8, 0], likes)

    def test_the_first_of_like_nodes_is_taken(self):
        # The and 4 is the complement of 3, and 8 is 3 again; 6 is the complement of a; 5 and 7 are constant, in two ways.
        circuit = Circuit(
            ["a", "b"], [], [(2, 4), (7, 7), (5, 4), (3, 1), (9, 5), (1, 6), (8, 7)], [("y", 17)])
        likes = self.check(circuit)
        self.assertEqual([0, 2, 4, 6, 7, 0, 3, 0, 6, 7], likes)

    def test_next_literals_make_no_difference(self):
        circuit = Circuit(["a"], [("p", 0, 0), ("q", 0, 4), ("r", 1, 2)], [(4, 6), (4, 2)], [("y", 10)])
        self.assertEqual([0, 2, 4, 6, 8, 10, 12], self.check(circuit))

    def test_edges(self):
        for circuit in edge_circuits():
            self.check(circuit)

    def test_some_circuits(self):
        merged = 0
        for seed in range(60):
            for circuit in (random_circuit(seed, 2, 2, 16), tree_circuit(seed, 3, 2, 20), random_circuit(seed, 4, 1, 40)):
                likes = self.check(circuit)
                merged += len([node for node, literal in enumerate(likes) if literal != 2 * node])
        self.assertGreater(merged, 1000)

    def test_more_inputs_and_latches(self):
        for seed in range(4):
            self.check(random_circuit(seed, 7, 5, 60))
            self.check(tree_circuit(seed, 8, 4, 60))

    def test_nodes_that_differ_rarely(self):
        # The ands of all 14 inputs and latches, of all with one complement, and what is 1 only where both are 0.
        ands = []
        first = 15
        for mark in (0, 1):
            literal = 2 + mark
            for leaf in range(2, 15):
                ands.append((literal, 2 * leaf))
                literal = 2 * (first + len(ands) - 1)
        last = 2 * (first + len(ands) - 1)
        ands.append((last - 26, last))
        ands.append((last - 25, last + 1))
        circuit = Circuit(
            [f"i{k}" for k in range(10)], [(f"q{k}", 0, 2) for k in range(4)], ands, [("y", last), ("z", last + 5)])
        likes = self.check(circuit)
        self.assertEqual(0, likes[-2])
        self.assertEqual(1, len([literal for node, literal in enumerate(likes) if literal != 2 * node]))

    def test_complements_of_nodes_that_are_rarely_true(self):
        # The and of all leaves, its complement, the and of all from the other end, the complement of that, and so on.
        ands = []
        literals = []
        for leaves in (range(1, 13), range(12, 0, -1)):
            literal = 1
            for leaf in leaves:
                ands.append((2 * leaf, literal))
                literal = 2 * (12 + len(ands))
            ands.append((literal ^ 1, literal ^ 1))
            literals += [literal, literal + 2]
        circuit = Circuit(
            [f"i{k}" for k in range(12)], [], ands, [(f"o{k}", literal) for k, literal in enumerate(literals)])
        likes = self.check(circuit)
        one = literals[0]
        self.assertEqual([one, one ^ 1, one, one ^ 1], [image_of(likes, literal) for literal in literals])

    def test_a_function_built_in_two_ways(self):
        for width in (1, 2, 5, 6):
            circuit = two_sums(width)
            likes = self.check(circuit)
            for place in range(width):
                (_, one), (_, two) = circuit.outputs[2 * place:2 * place + 2]
                self.assertEqual(image_of(likes, one), image_of(likes, two) ^ place & 1)

    def test_many_inputs_and_latches(self):
        circuit = two_sums(16)
        likes = like_literals(circuit)
        self.check_sweep(circuit, likes)
        # Lines are not told again and again.
        self.assertLess(len(sweep(circuit)[1].lines), 10 * len(circuit.ands))
        for place in range(16):
            (_, one), (_, two) = circuit.outputs[2 * place:2 * place + 2]
            self.assertEqual(image_of(likes, one), image_of(likes, two) ^ place & 1)

    def test_large_circuits(self):
        circuit = random_circuit(3, 16, 40, 2000, 32)
        self.check_sweep(circuit, like_literals(circuit))

    def test_lists_are_new(self):
        circuit = random_circuit(1)
        likes = like_literals(circuit)
        expected = list(likes)
        likes.clear()
        self.assertEqual(expected, like_literals(circuit))


class ScatteredWordsTest(unittest.TestCase):
    def test_all_words_differ(self):
        # So no two of at most 56 inputs and latches are taken for like each other, or for the constant.
        words = scattered_words(56, 512)
        patterns = {word ^ (2 ** 512 - 1) if word & 1 else word for word in words}
        self.assertEqual(56, len(patterns - {0}))
        self.assertTrue(all(0 <= word < 2 ** 512 for word in words))
        self.assertEqual(words, scattered_words(56, 512))
        for word in words:
            self.assertTrue(200 < bin(word).count("1") < 312)


if __name__ == "__main__":
    unittest.main()
