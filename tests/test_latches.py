"""Promises [62] to [66]: the coarsest lasting partition of the latches, and merging them."""

import itertools
import unittest

from helpers import SuregateTest, edge_circuits, plain, random_circuit, random_course, tree_circuit
from passes_check import check_pass

from suregate.frames.frames import same_clauses
from suregate.graph.builder import Builder, image_of
from suregate.graph.circuit import Circuit
from suregate.graph.joining import Joined
from suregate.judge.alike import fault_of_alike
from suregate.judge.certificate import AlikeCertificate
from suregate.latches.latches import merge_latches, steady_literals
from suregate.runs.plain import cycles, node_values, start_state, value_of


def next_values(circuit, partition, bits):
    """Returns the next values of the resting literals of the constant and the latches, in a state that agrees.

    The partition tells for the constant and each latch the number of its group, 0 for that of the constant; the bits
    are one for each further group, and the row.
    """
    net = circuit.as_net()
    group_count = max(partition)
    group_values = [0, *bits[:group_count]]
    state = [group_values[group] ^ start for group, (_, start, _) in zip(partition[1:], circuit.latches)]
    values = node_values(net, state, list(bits[group_count:]))
    return [0] + [value_of(values, literal) ^ start for _, start, literal in circuit.latches]


def parting_values(circuit, partition):
    """Returns next values of which two in a group differ, or None if the partition is lasting."""
    for bits in itertools.product((0, 1), repeat=max(partition) + len(circuit.inputs)):
        values = next_values(circuit, partition, bits)
        if len(set(zip(partition, values))) > len(set(partition)):
            return values
    return None


def numbered(groups):
    """Returns the partition with groups numbered in the order of their first members."""
    numbers = {}
    return [numbers.setdefault(group, len(numbers)) for group in groups]


def slow_partition(circuit):
    """Returns the coarsest lasting partition, found as [64] tells it."""
    partition = [0] * (1 + len(circuit.latches))
    while True:
        values = parting_values(circuit, partition)
        if values is None:
            return partition
        partition = numbered(list(zip(partition, values)))


def slow_steady(circuit, partition):
    """Returns the steady literals, given the coarsest lasting partition."""
    first = 1 + len(circuit.inputs)
    marks = [0] + [start for _, start, _ in circuit.latches]
    nodes = [0] + [first + place for place in range(len(circuit.latches))]
    answers = []
    for place in range(1, len(partition)):
        smallest = partition.index(partition[place])
        answers.append(2 * nodes[smallest] + (marks[smallest] ^ marks[place]))
    return answers


def slow_merged(circuit, steady):
    """Returns the merged circuit and the images of all nodes, given the steady literals."""
    first = 1 + len(circuit.inputs)
    kept = [place for place, literal in enumerate(steady) if literal == 2 * (first + place)]
    images = [2 * node for node in range(first)]
    for literal in steady:
        if literal > 1:
            literal = 2 * (first + kept.index(literal // 2 - first)) + literal % 2
        images.append(literal)
    builder = Builder(len(circuit.inputs) + len(kept))
    for left, right in circuit.ands:
        images.append(builder.both(image_of(images, left), image_of(images, right)))
    latches = [circuit.latches[place] for place in kept]
    return Circuit(
        circuit.inputs, [(name, start, image_of(images, literal)) for name, start, literal in latches],
        builder.pairs, [(name, image_of(images, literal)) for name, literal in circuit.outputs]), images


class LatchesTest(SuregateTest):
    def check(self, circuit):
        """Checks the steady literals, the merged circuit and its certificate; returns the steady literals."""
        before = plain(circuit)
        steady = steady_literals(circuit)
        self.assertEqual(before, plain(circuit))
        self.assertIs(list, steady.__class__)
        self.assertEqual(slow_steady(circuit, slow_partition(circuit)), steady)
        self.check_merged(circuit, steady)
        return steady

    def check_merged(self, circuit, steady):
        """Checks the merged circuit and its certificate, given the steady literals."""
        net = circuit.as_net()
        after, certificate = check_pass(self, merge_latches, circuit, same_latches=False)
        expected, images = slow_merged(circuit, steady)
        self.assertEqual(plain(expected), plain(after))
        again, certificate_again = merge_latches(after)
        self.assertTrue(after == again)
        self.assertIsNone(fault_of_alike(after, again, certificate_again))
        joined = Joined(circuit, after)
        for node in range(net.first_latch, net.node_count):
            clauses = certificate.facts if node < net.first_and else certificate.lines
            for clause in same_clauses(joined.from_left(2 * node), joined.from_right(images[node])):
                self.assertIn(clause, clauses)
        self.assertEqual(2 * len(circuit.latches), len(certificate.facts))
        # What is steady holds in each cycle.
        course = random_course(1, net.input_count, 20)
        for state in [start_state(circuit)] + [state for _, state in cycles(circuit, course)]:
            values = [0] * net.first_latch + state
            for node, literal in enumerate(steady, start=net.first_latch):
                self.assertEqual(value_of(values, 2 * node), value_of(values, literal))

    def test_latches_that_are_constant(self):
        # Nodes: 1 a, 2 p, 3 q, 4 r, 5 s, 6 the and of a and p.
        circuit = Circuit(
            ["a"], [("p", 0, 4), ("q", 1, 6), ("r", 0, 12), ("s", 1, 13)], [(2, 4)], [("y", 10), ("z", 9)])
        self.assertEqual([0, 1, 0, 1], self.check(circuit))
        after, _ = merge_latches(circuit)
        self.assertEqual(([], [], [("y", 1), ("z", 1)]), (after.latches, after.ands, after.outputs))

    def test_latches_that_start_otherwise(self):
        # A latch that starts with 1 and is 0 from then on is not constant; neither is its complement.
        circuit = Circuit([], [("p", 1, 0), ("q", 0, 1), ("r", 0, 0), ("s", 1, 1)], [], [("y", 2)])
        self.assertEqual([2, 3, 0, 1], self.check(circuit))

    def test_latches_that_are_equal_or_complementary(self):
        # Nodes: 1 a, 2 b, 3 p, 4 q, 5 r, 6 s, 7 t, 8 the and of a and b.
        circuit = Circuit(
            ["a", "b"], [("p", 0, 16), ("q", 0, 16), ("r", 1, 17), ("s", 1, 16), ("t", 1, 17)],
            [(2, 4)], [("y", 8), ("z", 11), ("w", 15), ("v", 14)])
        self.assertEqual([6, 6, 7, 12, 7], self.check(circuit))
        after, _ = merge_latches(circuit)
        self.assertEqual(["p", "s"], [name for name, _, _ in after.latches])
        self.assertEqual([("y", 6), ("z", 6), ("w", 6), ("v", 7)], after.outputs)

    def test_chains(self):
        # Two chains of latches behind an input, the second one of complements, with starts to match or not.
        circuit = Circuit(
            ["a"], [("p0", 0, 2), ("p1", 1, 4), ("p2", 0, 6), ("q0", 1, 3), ("q1", 0, 10), ("q2", 0, 12)], [], [])
        self.assertEqual([4, 6, 8, 5, 7, 14], self.check(circuit))
        circuit = Circuit([], [("p0", 0, 0), ("p1", 0, 2), ("p2", 0, 4), ("p3", 1, 7)], [], [])
        self.assertEqual([0, 0, 0, 1], self.check(circuit))
        # The 1 comes out of the chain in the end, so that all latches of it differ from the constant and each other.
        circuit = Circuit([], [("p0", 1, 0), ("p1", 0, 2), ("p2", 0, 4), ("p3", 0, 6)], [], [])
        self.assertEqual([2, 4, 6, 8], self.check(circuit))

    def test_rings(self):
        # Each of three latches takes the complement of the one before; so does a second ring.
        latches = [("p0", 0, 7), ("p1", 0, 3), ("p2", 0, 5), ("q0", 0, 13), ("q1", 0, 9), ("q2", 0, 11)]
        self.assertEqual([2] * 6, self.check(Circuit([], latches, [], [])))
        latches[4] = ("q1", 1, 9)
        self.assertEqual([2, 2, 2, 8, 10, 12], self.check(Circuit([], latches, [], [])))
        # A ring of which all are 0 for ever, and one in which a 1 goes round.
        latches = [("p0", 0, 6), ("p1", 0, 2), ("p2", 0, 4), ("q0", 1, 12), ("q1", 0, 8), ("q2", 0, 10)]
        self.assertEqual([0, 0, 0, 8, 10, 12], self.check(Circuit([], latches, [], [])))

    def test_latches_that_are_the_same_together_only(self):
        # Two counters of two bits: the second bits agree only because the first ones do.
        builder = Builder(5)
        nexts = []
        for low, high in ((4, 6), (8, 10)):
            nexts += [builder.unlike(low, 2), builder.unlike(high, builder.both(low, 2))]
        latches = [(name, 0, literal) for name, literal in zip(["p0", "p1", "q0", "q1"], nexts)]
        circuit = Circuit(["a"], latches, builder.pairs, [("y", 11), ("z", 6)])
        self.assertEqual([4, 6, 4, 6], self.check(circuit))
        self.assertEqual(14, len(circuit.ands))
        self.assertEqual(7, len(merge_latches(circuit)[0].ands))

    def test_next_literals_that_differ_only_in_states_that_do_not_agree(self):
        # The latch r takes p and not q, which never happens as p and q are the same.
        circuit = Circuit(["a"], [("p", 0, 2), ("q", 0, 2), ("r", 0, 10)], [(4, 7)], [("y", 8)])
        self.assertEqual([4, 4, 0], self.check(circuit))

    def test_states_that_are_not_met(self):
        # A counter of 0, 1, 2, 0, .. never is at 3, but its partition does not tell so.
        circuit = Circuit(
            [], [("p", 0, 8), ("q", 0, 2), ("r", 0, 10)], [(3, 5), (2, 4)], [("y", 6)])
        self.assertEqual([2, 4, 6], self.check(circuit))

    def test_next_literals_that_differ_rarely(self):
        # The latches take the and of all 16 inputs, of all but the last one, and so on, or the complements.
        inputs = [f"i{place}" for place in range(16)]
        first = 1 + 16 + 10
        ands = [(2, 4)] + [(2 * (first + place), 6 + 2 * place) for place in range(14)]
        last = 2 * (first + 14)
        wide = [(0, last), (1, last + 1), (0, last - 2), (1, last - 1), (1, last), (0, 0)]
        latches = [(f"q{place}", start, literal) for place, (start, literal) in enumerate(wide)]
        # And latches that differ only because those differ.
        latches += [("s0", 0, 34), ("s1", 1, 36), ("s2", 0, 38), ("s3", 0, 44)]
        circuit = Circuit(inputs, latches, ands, [("y", 46)])
        steady = steady_literals(circuit)
        self.assertEqual([34, 35, 38, 39, 42, 0, 46, 47, 50, 0], steady)
        self.check_merged(circuit, steady)

    def test_next_literals_that_are_the_same_in_another_way(self):
        # Each latch is added to all inputs, from the first one on, from the last one on, or as a complement.
        builder = Builder(12)
        words = {}
        for latch in (18, 20, 22, 24):
            one = two = latch
            for leaf in range(2, 18, 2):
                one = builder.unlike(one, leaf)
                two = builder.unlike(two, 18 - leaf)
            words[latch] = one, two
        latches = [("p", 0, words[18][0]), ("q", 0, words[20][1]), ("r", 1, words[22][1]), ("s", 1, words[24][0] ^ 1)]
        circuit = Circuit([f"i{place}" for place in range(8)], latches, builder.pairs, [("y", 20), ("z", 23)])
        self.assertEqual([18, 18, 19, 24], self.check(circuit))
        # Here the lines are needed.
        after, certificate = merge_latches(circuit)
        plain_lines = AlikeCertificate(certificate.facts, [], certificate.lines[-2 * len(circuit.ands):], [])
        self.assertEqual("next", fault_of_alike(circuit, after, plain_lines)[0])

    def test_edges(self):
        for circuit in edge_circuits():
            self.check(circuit)
        self.assertEqual([], steady_literals(Circuit([], [], [], [])))
        self.assertEqual([0], steady_literals(Circuit(["a"], [("q", 0, 4)], [], [])))

    def test_ands_are_built_by_a_builder(self):
        circuit = Circuit(["a", "b"], [("p", 0, 12), ("q", 0, 10)], [(2, 4), (2, 4), (10, 13), (8, 5)], [("y", 16)])
        self.assertEqual([6, 6], self.check(circuit))
        after, _ = merge_latches(circuit)
        self.assertEqual([(2, 4), (5, 6)], after.ands)

    def test_some_circuits(self):
        merged = 0
        for seed in range(150):
            for circuit in (random_circuit(seed, 2, 4, 6), tree_circuit(seed, 1, 4, 5), random_circuit(seed, 1, 5, 3)):
                steady = self.check(circuit)
                first = 1 + len(circuit.inputs)
                merged += len([place for place, literal in enumerate(steady) if 1 < literal < 2 * (first + place)])
        self.assertGreater(merged, 40)

    def test_the_slow_partition_is_the_coarsest(self):
        for seed in range(40):
            circuit = random_circuit(seed, 1, 3, 4)
            coarsest = slow_partition(circuit)
            for groups in itertools.product(range(4), repeat=4):
                if numbered(groups) == list(groups) and parting_values(circuit, list(groups)) is None:
                    self.assertEqual(len(set(groups)), len(set(zip(groups, coarsest))))

    def test_circuits_with_both_halves_alike(self):
        # Two copies of a circuit side by side; all latches of the second copy are those of the first.
        for seed in range(20):
            one = random_circuit(seed, 3, 6, 20)
            joined = Joined(one, one)
            latches = [
                (f"{side}{place}", start, literal)
                for place, (side, (start, literal)) in enumerate(zip("p" * 6 + "q" * 6, joined.joint.latches))]
            outputs = [(f"o{place}", goal[place % 2]) for place, goal in enumerate(joined.goals)]
            circuit = Circuit(one.inputs, latches, joined.joint.ands, outputs)
            steady = steady_literals(circuit)
            self.assertEqual(steady_literals(one), steady[:6])
            self.assertEqual(steady[:6], steady[6:])
            self.check_merged(circuit, steady)

    def test_large_circuits(self):
        for seed in range(3):
            circuit = random_circuit(seed, 16, 40, 2000, 32)
            self.check_merged(circuit, steady_literals(circuit))

    def test_lists_are_new(self):
        circuit = random_circuit(1)
        steady = steady_literals(circuit)
        expected = list(steady)
        steady.clear()
        self.assertEqual(expected, steady_literals(circuit))


if __name__ == "__main__":
    unittest.main()
