"""Promise [80] (with [75] to [77]): labels for a depth, rings, and the least depth."""

import itertools
import random
import unittest

from helpers import SuregateTest, edge_circuits, plain, random_circuit

from suregate.errors import InvalidLabels
from suregate.graph.circuit import Circuit
from suregate.retime.search import labels_for, least_depth
from suregate.retime.weights import depth_under, pin_weights


def small_circuit(seed):
    """Returns a circuit with few ands and many ways over latches."""
    chance = random.Random(seed)
    input_count, latch_count, and_count = chance.randrange(3), chance.randrange(5), chance.randrange(1, 5)
    first_and = 1 + input_count + latch_count
    end = first_and + and_count

    def ahead():
        return 2 * chance.randrange(first_and if chance.random() < 0.6 else 0, end) + chance.randrange(2)

    return Circuit(
        [f"i{k}" for k in range(input_count)], [(f"q{k}", 0, ahead()) for k in range(latch_count)],
        [(chance.randrange(2 * node), chance.randrange(2 * node)) for node in range(first_and, end)], [])


def least_labels(circuit):
    """Returns for each depth the least legal labels with at most this depth, by trying all small labels."""
    count = len(circuit.ands)
    found = {}
    for labels in itertools.product(range(count + 1), repeat=count):
        try:
            told = depth_under(circuit, list(labels))
        except InvalidLabels:
            continue
        for bound in range(told, count + 2):
            found[bound] = [min(pair) for pair in zip(found.get(bound, labels), labels)]
    return found


# A ring of four ands with two latches side by side, and a ring of three ands with one latch; no inputs in between.
RINGS = Circuit(
    [], [("p", 0, 14), ("q", 0, 2), ("r", 0, 20)],
    [(4, 5), (8, 8), (10, 11), (12, 12), (6, 6), (16, 17), (18, 18)], [])


class RingsTest(SuregateTest):
    def check_ring(self, circuit, bound, ring):
        """Checks that a ring is valid for a circuit and a depth."""
        net = circuit.as_net()
        pins = pin_weights(circuit)
        self.assertIs(list, ring.__class__)
        self.assertTrue(ring)
        total = 0
        ways = []
        for link in ring:
            self.assertIs(tuple, link.__class__)
            if link[0] == "floor":
                _, node = link
                self.assertTrue(net.first_and <= node < net.node_count)
                ways.append((node, 0))
            elif link[0] == "pin":
                _, node, side = link
                feeder, weight = pins[node - net.first_and][side]
                self.assertGreater(feeder, 0)
                ways.append((feeder if feeder >= net.first_and else 0, node))
                total += weight
            else:
                word, start, path = link
                self.assertEqual(("path", tuple), (word, path.__class__))
                self.assertTrue(net.first_and <= start < net.node_count)
                self.assertGreater(len(path) + 1, bound)
                end = start
                for node, side in path:
                    feeder, weight = pins[node - net.first_and][side]
                    self.assertEqual(end, feeder)
                    end = node
                    total += weight
                ways.append((start, end))
                total -= 1
        for place, (start, _) in enumerate(ways):
            self.assertEqual(ways[place - 1][1], start)
        self.assertLess(total, 0)

    def check(self, circuit, bound, expected):
        """Checks the labels for a depth, or None and the ring."""
        before = plain(circuit)
        answer = labels_for(circuit, bound)
        self.assertEqual(before, plain(circuit))
        self.assertIs(tuple, answer.__class__)
        labels, ring = answer
        self.assertEqual(expected, labels)
        if labels is None:
            self.check_ring(circuit, bound, ring)
        else:
            self.assertEqual([], ring)
            self.assertLessEqual(depth_under(circuit, labels), bound)

    def test_by_trying_all_labels(self):
        reached = refused = 0
        for seed in range(500):
            circuit = small_circuit(seed)
            found = least_labels(circuit)
            for bound in range(len(circuit.ands) + 2):
                self.check(circuit, bound, found.get(bound))
                reached += any(found.get(bound, []))
                refused += bound not in found
            depth, labels, ring = least_depth(circuit)
            self.assertEqual((min(found), found[min(found)]), (depth, labels))
            self.check_ring(circuit, depth - 1, ring)
        self.assertGreater(reached, 100)
        self.assertGreater(refused, 500)

    def test_a_row_behind_latches(self):
        # Two latches in front of a row of six ands.
        circuit = Circuit(
            ["a"], [("p", 0, 2), ("q", 0, 4)], [(6, 6)] + [(2 * node, 2 * node) for node in range(4, 9)], [])
        self.check(circuit, 6, [0, 0, 0, 0, 0, 0])
        self.check(circuit, 5, [1, 0, 0, 0, 0, 0])
        self.check(circuit, 4, [1, 1, 0, 0, 0, 0])
        self.check(circuit, 3, [1, 1, 1, 0, 0, 0])
        self.check(circuit, 2, [2, 2, 1, 1, 0, 0])
        self.check(circuit, 1, None)
        self.check(circuit, 0, None)
        self.assertEqual((2, [2, 2, 1, 1, 0, 0]), least_depth(circuit)[:2])

    def test_an_input_without_a_latch(self):
        circuit = Circuit(["a"], [("q", 0, 2)], [(4, 2), (6, 6), (8, 4), (10, 10)], [])
        self.check(circuit, 4, [0, 0, 0, 0])
        for bound in (3, 2, 1, 0):
            self.check(circuit, bound, None)
        self.assertEqual((4, [0, 0, 0, 0]), least_depth(circuit)[:2])

    def test_rings_of_ands(self):
        self.check(RINGS, 4, [0, 0, 0, 0, 0, 0, 0])
        self.check(RINGS, 3, [1, 0, 0, 0, 0, 0, 0])
        self.check(RINGS, 2, None)
        self.assertEqual((3, [1, 0, 0, 0, 0, 0, 0]), least_depth(RINGS)[:2])

    def test_ring_that_must_go_round_often(self):
        # With one latch on a ring of ands, there is no shorter path than the whole ring; ands and latches in any number.
        for count in (1, 2, 3, 7, 20):
            for latch_count in (1, 2, 3):
                latches = [("q0", 0, 2 * (latch_count + count))]
                latches += [(f"q{k}", 0, 2 * k) for k in range(1, latch_count)]
                first = 2 * (latch_count + 1)
                ands = [(first - 2, first - 2)] + [(first + 2 * k, first + 2 * k) for k in range(count - 1)]
                circuit = Circuit([], latches, ands, [])
                least = (count + latch_count - 1) // latch_count
                depth, labels, ring = least_depth(circuit)
                self.assertEqual(least, depth)
                self.assertEqual(least, depth_under(circuit, labels))
                self.check_ring(circuit, least - 1, ring)
                for bound in range(least):
                    self.check(circuit, bound, None)

    def test_free_pins_are_no_obstacle(self):
        # A row of ands behind the constant, and one behind a ring of latches.
        circuit = Circuit(
            [], [("p", 0, 4), ("q", 0, 2)], [(1, 1), (6, 6), (8, 8), (4, 4), (12, 12), (14, 14)], [])
        self.check(circuit, 1, [2, 1, 0, 2, 1, 0])
        self.check(circuit, 2, [1, 0, 0, 1, 0, 0])
        self.check(circuit, 3, [0] * 6)
        self.check(circuit, 0, None)
        self.assertEqual((1, [2, 1, 0, 2, 1, 0]), least_depth(circuit)[:2])

    def test_ands_that_nothing_needs_count(self):
        circuit = Circuit(["a"], [], [(2, 3), (4, 2), (6, 2)], [("y", 4)])
        self.check(circuit, 2, None)
        self.assertEqual((3, [0, 0, 0]), least_depth(circuit)[:2])

    def test_circuits_without_ands(self):
        for circuit in (Circuit([], [], [], []), Circuit(["a"], [("q", 0, 4)], [], [("y", 2)])):
            self.assertEqual((0, [], []), least_depth(circuit))
            self.assertEqual(([], []), labels_for(circuit, 0))
            self.assertEqual(([], []), labels_for(circuit, 5))

    def test_great_depths(self):
        for circuit in edge_circuits():
            self.assertEqual(([0] * len(circuit.ands), []), labels_for(circuit, 5000))

    def test_larger_circuits(self):
        for seed in range(12):
            circuit = random_circuit(seed, 2, 30, 60, 0)
            before = plain(circuit)
            depth, labels, ring = least_depth(circuit)
            self.assertEqual(before, plain(circuit))
            self.assertEqual(depth, depth_under(circuit, labels))
            self.check_ring(circuit, depth - 1, ring)
            self.assertEqual((labels, []), labels_for(circuit, depth))
            for bound in range(depth):
                self.check(circuit, bound, None)

    def test_labels_up_to_1999(self):
        circuit = Circuit([], [], [(1, 1)] + [(2 * node, 2 * node) for node in range(1, 2000)], [])
        self.check(circuit, 1, list(range(1999, -1, -1)))

    def test_long_rings(self):
        circuit = Circuit([], [("q", 0, 602)], [(2, 2)] + [(2 * node, 2 * node) for node in range(2, 301)], [])
        depth, labels, ring = least_depth(circuit)
        self.assertEqual((300, [0] * 300), (depth, labels))
        self.check_ring(circuit, 299, ring)

    def test_lists_are_new(self):
        labels, _ = labels_for(RINGS, 3)
        labels.clear()
        _, ring = labels_for(RINGS, 2)
        ring.clear()
        self.check(RINGS, 3, [1, 0, 0, 0, 0, 0, 0])
        self.check(RINGS, 2, None)


if __name__ == "__main__":
    unittest.main()
