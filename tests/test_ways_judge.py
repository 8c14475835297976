"""Promises [85] and [86]: the judge of ways."""

import random
import unittest

from helpers import SuregateTest, edge_circuits, plain, random_circuit, tree_circuit
from mapping_check import slow_fault_of_ways, slow_labels

from suregate.graph.circuit import Circuit
from suregate.judge.ways import fault_of_ways
from suregate.mapping.covers import map_circuit

# Three inputs and a latch; the ands are 5 = (1, 2), 6 = (5, 3), 7 = (6, 4), 8 = (7, 5), 9 = (8, 8).
CIRCUIT = Circuit(["a", "b", "c"], [("q", 0, 2)], [(2, 4), (10, 6), (13, 8), (14, 11), (16, 16)], [])
LABELS = [1, 2, 3, 4, 4]
WAYS = [
    [], [[1, 5, 6], [2, 5, 6], [3, 6]], [[1, 5, 6, 7], [3, 6, 7], [4, 7]],
    [[1, 5, 8], [3, 6, 7, 8], [4, 7, 8]], [[1, 5, 8, 9], [3, 6, 7, 8, 9], [4, 7, 8, 9]]]


class WaysTest(SuregateTest):
    def check(self, expected, labels=LABELS, ways=WAYS, size=2, circuit=CIRCUIT):
        before = plain([circuit, labels, ways])
        self.assertEqual(expected, fault_of_ways(circuit, size, labels, ways))
        self.assertEqual(before, plain([circuit, labels, ways]))
        self.assertEqual(expected, slow_fault_of_ways(circuit, size, labels, ways))

    def with_ways(self, index, ways):
        return WAYS[:index] + [ways] + WAYS[index + 1:]

    def with_label(self, index, label):
        return LABELS[:index] + [label] + LABELS[index + 1:]

    def test_right_ways(self):
        self.check(None)
        self.check(None, [], [], circuit=Circuit(["a"], [], [], []))
        for size in range(2, 7):
            self.check(None, [], [], size, Circuit([], [], [], []))

    def test_missing_and_surplus_labels(self):
        self.check(0, [])
        self.check(3, LABELS[:3])
        self.check(4, LABELS[:4])
        self.check(5, LABELS + [0])
        self.check(5, LABELS + [3])
        self.check(0, [0], [], circuit=Circuit([], [], [], []))

    def test_missing_and_surplus_entries_of_ways(self):
        self.check(0, LABELS, [])
        self.check(4, LABELS, WAYS[:4])
        self.check(5, LABELS, WAYS + [[]])
        self.check(0, [], [[]], circuit=Circuit([], [], [], []))
        self.check(5, LABELS + [1], WAYS + [[]])

    def test_negative_labels(self):
        for index in range(5):
            for label in (-1, -2, -100):
                self.check(index, self.with_label(index, label))
                self.check(index, self.with_label(index, label), self.with_ways(index, []))

    def test_labels_that_are_too_great(self):
        # With a greater label more nodes may be on one way only.
        self.check(0, self.with_label(0, 2), self.with_ways(0, [[1, 5], [2, 5], [1, 5]]))
        self.check(0, self.with_label(0, 2), self.with_ways(0, [[1, 5], [2, 5]]))
        self.check(1, self.with_label(1, 3))
        self.check(2, self.with_label(2, 4))
        self.check(3, self.with_label(3, 5))

    def test_labels_that_are_too_small_are_not_told(self):
        self.check(None, [0] * 5, [[]] * 5)
        self.check(None, [1] * 5, [[]] * 5)
        self.check(None, [0, 1, 1, 0, 1], [[]] * 5)
        self.check(None, [1, 2, 2, 2, 2], WAYS[:2] + [[[1, 5, 6, 7], [3, 6, 7], [4, 7]]] + WAYS[3:])
        # Only inputs and latches have a label of at most 0; the and 5 may be on several ways.
        self.check(None, [1, 2, 2, 2, 2], WAYS[:3] + [[[1, 5, 8], [2, 5, 8], [4, 7, 8]]] + WAYS[4:])

    def test_small_labels_have_no_ways(self):
        for label in (0, 1):
            self.check(1, self.with_label(1, label))
            # The and 7 with a label of 3 has ways that share the and 6, whose label is too small for that now.
            self.check(2, self.with_label(1, label), self.with_ways(1, []))
            self.check(None, [label, 1, label, 1, 1], [[]] * 5)
            self.check(0, self.with_label(0, label), self.with_ways(0, [[]]))
            self.check(0, self.with_label(0, label), self.with_ways(0, [[1, 5]]))

    def test_number_of_ways(self):
        self.check(1, LABELS, self.with_ways(1, []))
        self.check(1, LABELS, self.with_ways(1, WAYS[1][:2]))
        self.check(2, LABELS, self.with_ways(2, WAYS[2] + [[4, 7]]))
        self.check(1, size=3)
        self.check(1, size=1)
        self.check(None, [1, 1, 2, 2, 2], [[], []] + [row + [[2, 5] + row[0][2:]] for row in WAYS[2:]], 3)

    def test_ways_of_one_node_and_none(self):
        for way in ([], [6], [3], [1]):
            self.check(1, LABELS, self.with_ways(1, WAYS[1][:2] + [way]))
            self.check(1, LABELS, self.with_ways(1, [way] + WAYS[1][1:]))

    def test_ways_that_start_or_end_elsewhere(self):
        for way in ([5, 6], [0, 6], [5, 6, 6], [6, 6], [3, 6, 7], [4, 7], [3, 3, 6], [1, 5], [-1, 6], [10, 6]):
            self.check(1, LABELS, self.with_ways(1, WAYS[1][:2] + [way]))

    def test_ways_that_start_at_the_constant(self):
        # The ands 3 and 4 read the constant, which begins no way.
        circuit = Circuit(["a", "b"], [], [(0, 2), (6, 4), (1, 8)], [])
        self.check(2, [1, 1, 2], [[], [], [[1, 3, 4, 5], [2, 4, 5], [0, 5]]], circuit=circuit)
        self.check(2, [1, 1, 2], [[], [], [[0, 3, 4, 5], [2, 4, 5], [1, 3, 4, 5]]], circuit=circuit)

    def test_nodes_that_do_not_follow(self):
        for way in ([1, 6], [4, 6], [3, 5, 6], [1, 5, 5, 6], [1, 2, 6], [1, 6, 6], [3, 0, 6]):
            self.check(1, LABELS, self.with_ways(1, WAYS[1][:2] + [way]))
        for way in ([4, 7, 9], [4, 7, 6, 7, 8, 9], [1, 5, 8, 8, 9]):
            self.check(4, LABELS, self.with_ways(4, WAYS[4][:2] + [way]))

    def test_nodes_of_any_value(self):
        for wrong in (-1, -5, 0, 10, 11, 1000, -1000, 2 ** 70, -2 ** 70):
            for way in ([wrong, 6], [3, wrong], [1, wrong, 6], [wrong, 5, 6], [1, 5, wrong]):
                self.check(1, LABELS, self.with_ways(1, WAYS[1][:2] + [way]))
        # A node of the net that would be right if it were counted from the end.
        self.check(1, LABELS, self.with_ways(1, WAYS[1][:2] + [[1 - 10, 5, 6]]))
        self.check(1, LABELS, self.with_ways(1, WAYS[1][:2] + [[1, 5 - 10, 6]]))

    def test_a_node_that_ways_share(self):
        # At a label of 2 the inputs and the latch may not be shared, but ands with a label of 1 may.
        self.check(1, LABELS, self.with_ways(1, [[1, 5, 6], [1, 5, 6], [3, 6]]))
        self.check(1, LABELS, self.with_ways(1, [[1, 5, 6], [3, 6], [3, 6]]))
        # At a label of 3 the and 5 with a label of 1 may not be shared, but the and 6 with 2 may.
        self.check(2, LABELS, self.with_ways(2, [[1, 5, 6, 7], [2, 5, 6, 7], [4, 7]]))
        # At a label of 4 the and 6 with a label of 2 may not be shared, but the and 7 with 3 may.
        self.check(3, LABELS, self.with_ways(3, [[3, 6, 7, 8], [1, 5, 6, 7, 8], [4, 7, 8]]))
        self.check(4, LABELS, self.with_ways(4, [[1, 5, 8, 9], [2, 5, 8, 9], [4, 7, 8, 9]]))

    def test_which_and_is_told(self):
        self.check(1, LABELS[:4], self.with_ways(1, []))
        self.check(1, self.with_label(3, -1), self.with_ways(1, []))
        self.check(3, self.with_label(3, -1), WAYS[:4])
        self.check(2, LABELS[:2], WAYS + [[], []])

    def test_ways_of_mappings(self):
        chance = random.Random(11)
        told = {}
        circuits = edge_circuits() + [random_circuit(seed, 3, 2, 40, 2) for seed in range(20)]
        circuits += [tree_circuit(seed, 6, 2, 40) for seed in range(20)]
        for circuit in circuits:
            for size in range(2, 7):
                mapping = map_circuit(circuit, size)
                self.check(None, mapping.labels, mapping.ways, size, circuit)
                long = [index for index, row in enumerate(mapping.ways) if row]
                for _ in range(4 if long else 0):
                    ways = [[list(way) for way in row] for row in mapping.ways]
                    labels = list(mapping.labels)
                    index = chance.choice(long)
                    way = chance.choice(ways[index])
                    kind = chance.randrange(4)
                    if kind == 0:
                        way[chance.randrange(len(way))] += chance.choice((-1, 1))
                    elif kind == 1:
                        del way[chance.randrange(len(way))]
                    elif kind == 2:
                        labels[index] += chance.choice((-1, 1))
                    else:
                        way[:] = chance.choice(ways[index])
                    expected = slow_fault_of_ways(circuit, size, labels, ways)
                    self.check(expected, labels, ways, size, circuit)
                    told[expected is None] = told.get(expected is None, 0) + 1
        self.assertGreater(min(told.values()), 40)

    def test_no_ways_for_a_greater_label(self):
        # The labels by definition have ways; a label that is 1 greater has none at all.
        for seed in range(6):
            circuit = tree_circuit(seed, 4, 1, 9)
            labels = slow_labels(circuit.as_net(), 2)
            mapping = map_circuit(circuit, 2)
            self.assertEqual(labels, mapping.labels)
            for index in range(len(labels)):
                greater = labels[:index] + [labels[index] + 1] + labels[index + 1:]
                self.assertIsNotNone(fault_of_ways(circuit, 2, greater, mapping.ways))


if __name__ == "__main__":
    unittest.main()
