"""Promises [74], [76], [78] and [79]: retiming by labels, in layers."""

import random
import unittest

from helpers import SuregateTest, edge_circuits, plain, random_circuit, random_course

from suregate.errors import InvalidCircuit, InvalidLabels
from suregate.frames.frames import in_frame, same_clauses
from suregate.graph.circuit import Circuit
from suregate.graph.joining import Joined
from suregate.judge.alike import fault_of_alike, fault_of_chain
from suregate.retime.layers import retime
from suregate.retime.search import least_depth
from suregate.retime.weights import check_labels, depth_under, pin_weights
from suregate.runs.plain import node_values, run, start_state, value_of


def slow_layer(circuit, moved):
    """Returns the new circuit as [78] tells it, the order of the ands, and where the old latches and ands are.

    The literals of the new circuit are pairs of a word for a node and a mark, until all nodes have their numbers.
    """
    net = circuit.as_net()
    values = node_values(net, start_state(circuit), [1] * net.input_count)

    def led(literal):
        node, mark = divmod(literal, 2)
        if node < net.first_latch:
            return ("leaf", node), mark
        if node < net.first_and:
            return ("old", node), mark
        return ("new" if node in moved else "and", node), mark

    def led_ahead(literal):
        node, mark = divmod(literal, 2)
        if node == 0:
            return ("leaf", 0), mark
        if node < net.first_and:
            place, following_mark = led(net.latches[node - net.first_latch][1])
            return place, following_mark ^ mark
        assert node in moved
        return ("and", node), mark

    pairs = {}
    for node, pair in enumerate(net.ands, start=net.first_and):
        pairs[node] = [led_ahead(literal) if node in moved else led(literal) for literal in pair]
    order = []
    while len(order) < len(pairs):
        order.append(min(
            node for node, pair in pairs.items() if node not in order
            and all(place[0] != "and" or place[1] in order for place, _ in pair)))
    nexts = {("old", node): led(net.latches[node - net.first_latch][1]) for node in range(net.first_latch, net.first_and)}
    nexts.update({("new", node): (("and", node), 0) for node in moved})
    kept = {place for pair in pairs.values() for place, _ in pair if place in nexts}
    kept |= {led(literal)[0] for _, literal in circuit.outputs if led(literal)[0] in nexts}
    while any(nexts[place][0] in nexts and nexts[place][0] not in kept for place in kept):
        kept |= {nexts[place][0] for place in kept if nexts[place][0] in nexts}
    names = [f"r{number}" for number in range(len(moved) + 100)]
    taken = set(circuit.inputs) | {name for name, _, _ in circuit.latches}
    names = [name for name in names if name not in taken]
    places = {("leaf", node): node for node in range(net.first_latch)}
    latches = []
    for place in sorted(kept, key=lambda place: (place[0] == "new", place[1])):
        places[place] = net.first_latch + len(latches)
        word, node = place
        if word == "old":
            name, start, _ = circuit.latches[node - net.first_latch]
        else:
            name, start = names.pop(0), values[node]
        latches.append((name, start, nexts[place]))
    for node in order:
        places[("and", node)] = net.first_latch + len(latches) + order.index(node)

    def placed(told):
        return 2 * places[told[0]] + told[1]

    return Circuit(
        circuit.inputs, [(name, start, placed(told)) for name, start, told in latches],
        [(placed(pairs[node][0]), placed(pairs[node][1])) for node in order],
        [(name, placed(led(literal))) for name, literal in circuit.outputs]), order, places


def same_sets(clauses):
    """Returns the clauses, of which neither the order nor that of their literals counts."""
    return sorted(tuple(sorted(clause)) for clause in clauses)


def random_labels(seed, circuit):
    """Returns legal labels, as great as chance will have it."""
    chance = random.Random(seed)
    labels = [0] * len(circuit.ands)
    for _ in range(6 * len(labels)):
        place = chance.randrange(len(labels))
        step = chance.choice([1, 1, 1, 2, -1])
        labels[place] += step
        try:
            check_labels(circuit, labels)
        except InvalidLabels:
            labels[place] -= step
    return labels


class LayersTest(SuregateTest):
    def check(self, circuit, labels):
        """Checks the layers of legal labels, and returns the circuits."""
        before = plain([circuit, labels])
        layers = retime(circuit, labels)
        self.assertEqual(before, plain([circuit, labels]))
        self.assertIs(list, layers.__class__)
        self.assertEqual(max(labels, default=0), len(layers))
        left = dict(enumerate(labels, start=circuit.as_net().first_and))
        old = circuit
        for after, certificate in layers:
            expected, order, places = slow_layer(old, {node for node, label in left.items() if label > 0})
            self.assertEqual(plain(expected), plain(after))
            self.check_certificate(old, after, certificate, {node for node in left if left[node] > 0}, places)
            left = {after.as_net().first_and + place: max(left[node] - 1, 0) for place, node in enumerate(order)}
            old = after
        circuits = [circuit] + [after for after, _ in layers]
        self.assertIsNone(fault_of_chain(circuits, [certificate for _, certificate in layers]))
        for seed in range(3):
            course = random_course(seed, len(circuit.inputs), 12)
            expected = run(circuit, course)
            for after in circuits:
                self.assertEqual(expected, run(after, course))
        return circuits

    def check_certificate(self, old, after, certificate, moved, places):
        """Checks that a layer's certificate says what [79] tells, and that it is accepted."""
        self.assertIsNone(fault_of_alike(old, after, certificate))
        joined = Joined(old, after)
        net = old.as_net()
        facts, lines, next_lines = [], [], []
        for (word, node), place in places.items():
            left, right = joined.from_left(2 * node), joined.from_right(2 * place)
            if word in ("old", "new"):
                facts += same_clauses(left, right)
            elif word == "and" and node in moved:
                (later,) = in_frame(joined.joint, (left,), 1)
                next_lines += same_clauses(later, right)
            elif word == "and":
                lines += same_clauses(left, right)
        self.assertEqual(len(net.ands), len([0 for word, _ in places if word == "and"]))
        self.assertEqual(same_sets(facts), same_sets(certificate.facts))
        self.assertEqual([], certificate.start_lines)
        self.assertEqual(same_sets(lines), same_sets(certificate.lines))
        self.assertEqual(same_sets(next_lines), same_sets(certificate.next_lines))

    def test_one_layer_by_hand(self):
        # Nodes: 1 a, 2 b, 3 p, 4 q, 5 the and of p and q; p starts with 1.
        circuit = Circuit(["a", "b"], [("p", 1, 2), ("q", 1, 5)], [(6, 8)], [("y", 10), ("z", 7)])
        _, after = self.check(circuit, [1])
        # The latch q is dropped; p is still read by the output z. The new latch has the value of the and.
        self.assertEqual([("p", 1, 2), ("r0", 1, 10)], after.latches)
        self.assertEqual([(2, 5)], after.ands)
        self.assertEqual([("y", 8), ("z", 7)], after.outputs)

    def test_labels_that_are_all_0(self):
        for circuit in edge_circuits() + [random_circuit(seed) for seed in range(5)]:
            self.assertEqual([circuit], self.check(circuit, [0] * len(circuit.ands)))
            self.assertEqual([], retime(circuit, [0] * len(circuit.ands)))

    def test_starts_of_new_latches(self):
        for first in (0, 1):
            for second in (0, 1):
                circuit = Circuit(["a"], [("p", first, 2), ("q", second, 4)], [(5, 6), (8, 7)], [("y", 9), ("z", 11)])
                circuits = self.check(circuit, [1, 1])
                starts = [start for name, start, _ in circuits[-1].latches if name in ("r0", "r1")]
                self.assertEqual([(1 - first) & second, 0], starts)

    def test_several_layers(self):
        circuit = Circuit(
            ["a"], [("p", 0, 2), ("q", 1, 4), ("s", 0, 6)], [(8, 8), (10, 11), (13, 10), (14, 2)], [("y", 16)])
        self.assertEqual([[(1, 3), (1, 3)]], pin_weights(circuit)[:1])
        circuits = self.check(circuit, [3, 2, 1, 0])
        self.assertEqual(4, len(circuits))
        circuits = self.check(circuit, [3, 3, 0, 0])
        self.assertEqual(4, len(circuits))

    def test_a_literal_led_ahead_through_a_complement(self):
        circuit = Circuit(["a", "b"], [("p", 0, 3), ("q", 0, 4)], [(7, 8), (7, 9)], [("y", 10), ("z", 12)])
        _, after = self.check(circuit, [1, 1])
        self.assertEqual([(2, 4), (2, 5)], after.ands)
        self.assertEqual([("r0", 0, 10), ("r1", 1, 12)], after.latches)

    def test_constants_and_free_pins(self):
        # The latch p takes the constant, q and s take each other; nothing of this is an obstacle.
        circuit = Circuit(
            [], [("p", 1, 0), ("q", 1, 6), ("s", 0, 5)], [(2, 1), (4, 7), (8, 10), (12, 12)], [("y", 14), ("z", 4)])
        for labels in ([1, 0, 0, 0], [0, 1, 0, 0], [1, 1, 1, 0], [2, 3, 2, 1], [5, 5, 5, 5]):
            self.check(circuit, labels)

    def test_latches_that_only_read_each_other_are_dropped(self):
        circuit = Circuit(
            ["a"], [("p", 0, 6), ("q", 1, 4), ("s", 0, 2), ("t", 0, 8)], [(8, 11)], [("y", 12)])
        _, after = self.check(circuit, [1])
        self.assertEqual(["s", "r0"], [name for name, _, _ in after.latches])
        # The same latches stay if an and reads one of them.
        circuit = Circuit(circuit.inputs, circuit.latches, [(8, 11), (4, 4)], circuit.outputs)
        _, after = self.check(circuit, [1, 0])
        self.assertEqual(["p", "q", "s", "r0"], [name for name, _, _ in after.latches])

    def test_a_new_latch_that_nothing_reads_is_dropped(self):
        circuit = Circuit(["a"], [("p", 0, 2), ("q", 1, 3)], [(4, 5), (6, 6), (4, 6)], [("y", 12)])
        _, after = self.check(circuit, [1, 1, 1])
        self.assertEqual([("r0", 0, 10)], after.latches)
        _, after = self.check(Circuit(circuit.inputs, circuit.latches, circuit.ands, []), [1, 1, 1])
        self.assertEqual([], after.latches)

    def test_names(self):
        # The names of inputs and latches are passed over, also those of latches that are dropped.
        circuit = Circuit(
            ["r1", "a"], [("r3", 0, 2), ("r0", 0, 4), ("r00", 0, 2)], [(6, 8), (6, 9), (7, 8), (7, 9)],
            [("r2", 12), ("y", 15), ("z", 16), ("w", 18)])
        _, after = self.check(circuit, [1, 1, 1, 1])
        self.assertEqual(["r2", "r4", "r5", "r6"], [name for name, _, _ in after.latches])
        # In the second layer the names of the first one are there, and so are passed over.
        circuit = Circuit(
            ["a"], [("p", 0, 2), ("q", 0, 4)], [(6, 6), (8, 8)], [("y", 8), ("z", 10)])
        circuits = self.check(circuit, [2, 2])
        self.assertEqual(
            [[name for name, _, _ in told.latches] for told in circuits], [
                ["p", "q"], ["p", "r0", "r1"], ["r0", "r1", "r2", "r3"]])

    def test_the_order_of_the_ands(self):
        # The first and is moved and then reads the last one, which the latch took.
        circuit = Circuit(
            ["a", "b"], [("p", 0, 12)], [(6, 6), (2, 4), (11, 5)], [("y", 8), ("z", 13)])
        _, after = self.check(circuit, [1, 0, 0])
        # The ands in order: that of a and b, the one behind it, and then the moved one.
        self.assertEqual([(2, 4), (9, 5), (10, 10)], after.ands)

    def test_random_labels(self):
        greatest = {}
        for seed in range(250):
            circuit = random_circuit(seed, seed % 3, 2 + seed % 5, 3 + seed % 7, 2)
            labels = random_labels(seed, circuit)
            if max(labels) <= 8:
                self.check(circuit, labels)
                greatest[max(labels)] = greatest.get(max(labels), 0) + 1
        for label in range(5):
            self.assertGreater(greatest[label], 0)

    def test_labels_of_least_depth(self):
        for seed in range(20):
            circuit = random_circuit(seed, 2, 12, 25, 3)
            depth, labels, _ = least_depth(circuit)
            circuits = self.check(circuit, labels)
            self.assertEqual(depth, depth_under(circuits[-1], [0] * len(labels)))
            if any(labels):
                self.assertGreater(depth_under(circuit, [0] * len(labels)), depth)

    def test_outputs_from_the_first_cycle_on(self):
        for seed in range(30):
            circuit = random_circuit(seed, 0, 4, 6, 4)
            labels = random_labels(seed, circuit)
            for after, _ in retime(circuit, labels):
                values = node_values(after.as_net(), start_state(after), [])
                self.assertEqual(
                    run(circuit, [[]])[0], [value_of(values, literal) for _, literal in after.outputs])

    def test_labels_that_are_not_legal(self):
        circuit = Circuit(["a"], [("p", 0, 2)], [(4, 4), (6, 2)], [("y", 8)])
        for labels, index in (
                ([0], 1), ([], 0), ([0, 0, 0], 2), ([-1, 0], 0), ([0, 2001], 1), ([0, 1], 1), ([2, 0], 0), ([1, 1], 1),
                ([2, -1], 1), ([2, 0, 0], 2)):
            before = plain([circuit, labels])
            self.assert_error(InvalidLabels, {"index": index}, retime, circuit, labels)
            self.assertEqual(before, plain([circuit, labels]))
        self.check(circuit, [1, 0])

    def test_more_than_40_latches(self):
        # Ands of two latches in turn: each is moved and gets a latch of its own.
        for count in (39, 40, 41):
            ands = [(4 + 2 * (place % 7), 4 + 2 * (place % 6)) for place in range(count)]
            latches = [(f"q{place}", 0, 2) for place in range(7)]
            outputs = [(f"o{place}", 18 + 2 * place) for place in range(32)]
            ands += [(18 + 2 * place, 2) for place in range(count)]
            circuit = Circuit(["a"], latches, ands, outputs)
            labels = [1] * count + [0] * count
            if count <= 40:
                _, after = self.check(circuit, labels)
                self.assertEqual(count, len(after.latches))
            else:
                before = plain([circuit, labels])
                self.assert_error(InvalidCircuit, {"part": "latches", "index": 40}, retime, circuit, labels)
                self.assertEqual(before, plain([circuit, labels]))

    def test_more_than_40_latches_in_a_later_layer(self):
        # In the first layer one and is moved; in the second one 41 that read the new latch.
        latches = [("p", 0, 2), ("q", 0, 4)]
        ands = [(6, 6)] + [(8, 6 + (place & 1)) for place in range(41)] + [(10 + 2 * place, 2) for place in range(41)]
        circuit = Circuit(["a"], latches, ands, [])
        self.assert_error(
            InvalidCircuit, {"part": "latches", "index": 40}, retime, circuit, [2] + [1] * 41 + [0] * 41)
        self.assertEqual(2, len(self.check(circuit, [1] + [0] * 82)))

    def test_large_circuits(self):
        circuit = random_circuit(2, 4, 40, 2000, 32)
        depth, labels, _ = least_depth(circuit)
        try:
            layers = retime(circuit, labels)
        except InvalidCircuit as error:
            self.assertEqual(("latches", 40), (error.part, error.index))
            return
        self.assertIsNone(fault_of_chain(
            [circuit] + [after for after, _ in layers], [certificate for _, certificate in layers]))

    def test_lists_are_new(self):
        circuit = Circuit(["a"], [("p", 0, 2), ("q", 0, 4)], [(6, 6)], [("y", 8)])
        layers = retime(circuit, [2])
        expected = plain(layers)
        layers[0][0].latches.clear()
        layers.clear()
        self.assertEqual(expected, plain(retime(circuit, [2])))


if __name__ == "__main__":
    unittest.main()
