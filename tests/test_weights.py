"""Promises [75], [76] and [77]: the weights of pins, legal labels and depths."""

import itertools
import unittest

from helpers import SuregateTest, plain, random_circuit

from suregate.errors import InvalidLabels
from suregate.graph.circuit import Circuit
from suregate.retime.weights import check_labels, depth_under, pin_weights

# Nodes: 1 a, 2 p, 3 q, 4 to 7 the ands. p reads and 4, q reads p; so from and 4 to and 6 there are two latches.
CIRCUIT = Circuit(["a"], [("p", 0, 9), ("q", 1, 4)], [(2, 3), (8, 4), (10, 7), (12, 2)], [("y", 14)])


def slow_weight(circuit, literal):
    """Returns the feeder and the weight of a pin, as the document tells it."""
    net = circuit.as_net()
    node, passed = literal // 2, []
    while net.first_latch <= node < net.first_and:
        if node in passed:
            return -1, 0
        passed.append(node)
        node = net.latches[node - net.first_latch][1] // 2
    return (-1, 0) if node == 0 else (node, len(passed))


def first_negative(circuit, labels):
    """Returns the first and with a pin of negative new weight, or None."""
    first_and = circuit.as_net().first_and
    for index, pair in enumerate(circuit.ands):
        for feeder, weight in [slow_weight(circuit, literal) for literal in pair]:
            label = labels[feeder - first_and] if feeder >= first_and else 0
            if feeder != -1 and weight + label - labels[index] < 0:
                return index
    return None


def slow_depth(circuit, labels):
    """Returns the greatest length of a path of new weight 0, found by walking all paths."""
    first_and = circuit.as_net().first_and

    def longest_to(index):
        best = 1
        for feeder, weight in pin_weights(circuit)[index]:
            if feeder >= first_and and weight + labels[feeder - first_and] - labels[index] == 0:
                best = max(best, 1 + longest_to(feeder - first_and))
        return best

    return max([longest_to(index) for index in range(len(circuit.ands))], default=0)


class PinWeightsTest(unittest.TestCase):
    def test_example(self):
        circuit = Circuit(["a"], [("q", 0, 2)], [(2, 4), (5, 6)], [])
        self.assertEqual([[(1, 0), (1, 1)], [(1, 1), (3, 0)]], pin_weights(circuit))

    def test_pins_that_pass_several_latches(self):
        self.assertEqual(
            [[(1, 0), (1, 0)], [(4, 0), (4, 1)], [(5, 0), (4, 2)], [(6, 0), (1, 0)]], pin_weights(CIRCUIT))

    def test_long_rows_of_latches(self):
        latches = [(f"q{k}", 0, 2 * k + 2) for k in range(40)]
        circuit = Circuit(["a"], latches, [(83, 82), (2, 4)], [])
        self.assertEqual([[(1, 40), (1, 40)], [(1, 0), (1, 1)]], pin_weights(circuit))

    def test_the_constant_is_free(self):
        circuit = Circuit([], [("p", 0, 1), ("q", 0, 3)], [(0, 1), (2, 5)], [])
        self.assertEqual([[(-1, 0), (-1, 0)], [(-1, 0), (-1, 0)]], pin_weights(circuit))

    def test_rings_of_latches_are_free(self):
        alone = Circuit(["a"], [("p", 0, 4)], [(4, 2)], [])
        self.assertEqual([[(-1, 0), (1, 0)]], pin_weights(alone))
        ring = Circuit(["a"], [("p", 0, 6), ("q", 0, 9), ("r", 0, 4), ("s", 0, 6)], [(4, 6), (9, 10)], [])
        self.assertEqual([[(-1, 0), (-1, 0)], [(-1, 0), (-1, 0)]], pin_weights(ring))

    def test_feeders_behind_latches_may_be_later_ands(self):
        circuit = Circuit(["a"], [("p", 0, 8)], [(4, 2), (6, 7)], [])
        self.assertEqual([[(4, 1), (1, 0)], [(3, 0), (3, 0)]], pin_weights(circuit))
        own = Circuit(["a"], [("p", 0, 6)], [(4, 5)], [])
        self.assertEqual([[(3, 1), (3, 1)]], pin_weights(own))

    def test_no_ands(self):
        self.assertEqual([], pin_weights(Circuit(["a"], [("q", 0, 2)], [], [])))

    def test_random_circuits(self):
        for seed in range(60):
            circuit = random_circuit(seed, seed % 3, 1 + seed % 7, 8, 0)
            expected = [[slow_weight(circuit, literal) for literal in pair] for pair in circuit.ands]
            before = plain(circuit)
            self.assertEqual(expected, pin_weights(circuit))
            self.assertEqual(before, plain(circuit))

    def test_kinds_of_the_answer(self):
        entry = pin_weights(CIRCUIT)[0]
        self.assertEqual((list, tuple), (entry.__class__, entry[0].__class__))
        entry.clear()
        self.assertEqual(2, len(pin_weights(CIRCUIT)[0]))


class LabelsTest(SuregateTest):
    def refused(self, index, circuit, labels):
        before = list(labels)
        self.assert_error(InvalidLabels, {"index": index}, check_labels, circuit, labels)
        self.assert_error(InvalidLabels, {"index": index}, depth_under, circuit, labels)
        self.assertEqual(before, labels)

    def test_legal_labels(self):
        labels = [0, 0, 0, 0]
        self.assertIsNone(check_labels(CIRCUIT, labels))
        self.assertEqual([0, 0, 0, 0], labels)
        self.assertIsNone(check_labels(Circuit([], [], [], []), []))

    def test_missing_labels(self):
        self.refused(0, CIRCUIT, [])
        self.refused(3, CIRCUIT, [0, 0, 0])

    def test_surplus_labels(self):
        self.refused(4, CIRCUIT, [0, 0, 0, 0, 0])
        self.refused(4, CIRCUIT, [0, 0, 0, 0, 0, -1])
        self.refused(4, CIRCUIT, [0, 0, 0, 0, -1])
        self.refused(0, Circuit(["a"], [], [], []), [0])

    def test_range_of_labels(self):
        circuit = Circuit([], [], [(1, 1), (1, 1)], [])
        for labels in ([0, 2000], [2000, 0], [2000, 2000]):
            self.assertIsNone(check_labels(circuit, labels))
        for wrong in (-1, -2000, 2001, 5000):
            self.refused(1, circuit, [2000, wrong])
            self.refused(0, circuit, [wrong, wrong])

    def test_wrong_labels_are_told_before_missing_and_surplus_ones(self):
        circuit = Circuit([], [], [(1, 1)] * 3, [])
        self.refused(1, circuit, [0, 2001])
        self.refused(2, circuit, [0, 0, -1, 0])
        self.refused(2, circuit, [0, 0])
        self.refused(0, circuit, [-1])

    def test_negative_new_weights(self):
        # A label of 1 needs a latch on each pin, or a feeder with that label.
        self.refused(0, CIRCUIT, [1, 0, 0, 0])
        self.refused(1, CIRCUIT, [0, 1, 0, 0])
        self.refused(2, CIRCUIT, [0, 0, 1, 0])
        self.refused(3, CIRCUIT, [0, 0, 0, 1])
        self.refused(1, CIRCUIT, [0, 1, 1, 0])

    def test_either_side_can_be_negative(self):
        circuit = Circuit(["a"], [("q", 0, 2)], [(4, 2), (2, 4), (4, 4)], [])
        self.refused(0, circuit, [1, 0, 0])
        self.refused(1, circuit, [0, 1, 0])
        self.assertIsNone(check_labels(circuit, [0, 0, 1]))
        self.refused(2, circuit, [0, 0, 2])

    def test_labels_of_feeders_count(self):
        circuit = Circuit(["a"], [("q", 0, 2)], [(4, 4), (6, 7)], [])
        self.assertIsNone(check_labels(circuit, [1, 1]))
        self.assertIsNone(check_labels(circuit, [1, 0]))
        self.refused(1, circuit, [0, 1])
        self.refused(1, circuit, [1, 2])

    def test_wrong_labels_are_told_before_negative_new_weights(self):
        self.refused(3, CIRCUIT, [1, 0, 0, -1])
        self.refused(3, CIRCUIT, [1, 0, 0])
        self.refused(4, CIRCUIT, [1, 0, 0, 0, 0])
        self.refused(2, CIRCUIT, [1, 1, 2001, 0])

    def test_free_pins_are_no_obstacle(self):
        circuit = Circuit(["a"], [("p", 0, 4), ("q", 0, 2)], [(4, 1), (0, 6), (6, 2)], [])
        self.assertIsNone(check_labels(circuit, [2000, 1, 0]))
        self.refused(1, circuit, [2000, 2, 0])
        self.refused(2, circuit, [2000, 1, 1])

    def test_later_feeders(self):
        circuit = Circuit(["a"], [("p", 0, 8)], [(4, 4), (6, 6)], [])
        self.assertIsNone(check_labels(circuit, [1, 0]))
        self.assertIsNone(check_labels(circuit, [1, 1]))
        self.assertIsNone(check_labels(circuit, [2000, 2000]))
        self.refused(0, circuit, [2, 0])
        self.refused(1, circuit, [0, 1])


class DepthTest(SuregateTest):
    def test_no_ands(self):
        self.assertEqual(0, depth_under(Circuit(["a"], [], [], [("y", 2)]), []))

    def test_labels_that_are_all_0(self):
        self.assertEqual(4, depth_under(CIRCUIT, [0, 0, 0, 0]))
        self.assertEqual(1, depth_under(Circuit(["a"], [], [(2, 3)], []), [0]))

    def test_ands_that_nothing_needs_count(self):
        circuit = Circuit(["a"], [], [(2, 3), (4, 2), (6, 2)], [("y", 4)])
        self.assertEqual(3, depth_under(circuit, [0, 0, 0]))

    def test_latches_end_paths(self):
        circuit = Circuit(["a"], [("p", 0, 6)], [(2, 2), (4, 2), (8, 2)], [])
        self.assertEqual(2, depth_under(circuit, [0, 0, 0]))

    def test_free_pins_are_on_no_path(self):
        circuit = Circuit([], [("p", 0, 2)], [(2, 1), (2, 0)], [])
        self.assertEqual(1, depth_under(circuit, [0, 7]))

    def test_inputs_are_not_on_paths(self):
        self.assertEqual(1, depth_under(Circuit(["a"], [("q", 0, 2)], [(4, 4)], []), [1]))

    def test_labels_shorten_and_lengthen_paths(self):
        # Two ands behind a latch each; a label moves the latch from in front of an and to behind it.
        circuit = Circuit(["a"], [("p", 0, 2)], [(4, 4), (6, 6), (8, 8), (10, 10)], [])
        depths = {labels: depth_under(circuit, list(labels)) for labels in (
            (0, 0, 0, 0), (1, 0, 0, 0), (1, 1, 0, 0), (1, 1, 1, 0), (1, 1, 1, 1))}
        self.assertEqual([4, 3, 2, 3, 4], list(depths.values()))

    def test_later_ands_can_stand_earlier_on_a_path(self):
        # The and 0 reads the latch, which follows the and 1.
        circuit = Circuit(["a"], [("p", 0, 8)], [(4, 4), (2, 2)], [])
        self.assertEqual(1, depth_under(circuit, [0, 0]))
        self.assertEqual(2, depth_under(circuit, [1, 0]))
        longer = Circuit(["a"], [("p", 0, 12)], [(4, 4), (6, 2), (2, 2), (10, 10)], [])
        self.assertEqual(2, depth_under(longer, [0, 0, 0, 0]))
        self.assertEqual(3, depth_under(longer, [1, 0, 0, 0]))

    def test_both_pins_of_one_and(self):
        circuit = Circuit(["a"], [], [(2, 2), (4, 5), (6, 6), (8, 4)], [])
        self.assertEqual(4, depth_under(circuit, [0, 0, 0, 0]))

    def test_deep_circuits(self):
        ands = [(2, 3)] + [(2 * node, 2) for node in range(2, 2001)]
        circuit = Circuit(["a"], [], ands, [])
        self.assertEqual(2000, depth_under(circuit, [0] * 2000))

    def test_random_circuits(self):
        legal = 0
        for seed in range(40):
            circuit = random_circuit(seed, 1, 5, 4, 0)
            before = plain(circuit)
            for labels in itertools.product((0, 1, 2), repeat=4):
                labels = list(labels)
                index = first_negative(circuit, labels)
                if index is None:
                    legal += 1
                    self.assertIsNone(check_labels(circuit, labels))
                    self.assertEqual(slow_depth(circuit, labels), depth_under(circuit, labels))
                else:
                    self.assert_error(InvalidLabels, {"index": index}, check_labels, circuit, labels)
            self.assertEqual(before, plain(circuit))
        self.assertGreater(legal, 100)


if __name__ == "__main__":
    unittest.main()
