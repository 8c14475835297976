"""Promises [54] to [56]: refactoring."""

import itertools
import random
import unittest

from helpers import SuregateTest, cuts_off, edge_circuits, plain, random_circuit, random_course, slow_table, tree_circuit
from passes_check import check_pass

from suregate.errors import InvalidCircuit, InvalidCut, TooHard
from suregate.frames.frames import same_clauses
from suregate.graph.builder import Builder, image_of, leaf_images, rebuilt
from suregate.graph.circuit import Circuit
from suregate.graph.joining import Joined
from suregate.judge.alike import fault_of_alike
from suregate.passes.refactor import refactor, replace_cones, settled_choice
from suregate.passes.structure import and_count, hash_circuit
from suregate.runs.plain import run
from suregate.tables.cuts import cuts_of
from suregate.tables.networks import network_for


def slow_replaced(circuit, choice):
    """Returns the refactored circuit and the images, as [54] tells it."""
    net = circuit.as_net()
    builder = Builder(net.first_and - 1)
    images = leaf_images(circuit)
    for node, (left, right) in enumerate(net.ands, start=net.first_and):
        if node in choice:
            nodes = choice[node]
            pairs, literal = network_for(slow_table(net, 2 * node, list(nodes)), len(nodes))
            built = [0] + [images[leaf] for leaf in nodes]
            for one, other in pairs:
                built.append(builder.both(image_of(built, one), image_of(built, other)))
            images.append(image_of(built, literal))
        else:
            images.append(builder.both(image_of(images, left), image_of(images, right)))
    return rebuilt(circuit, builder, images), images


def random_choice(seed, circuit):
    """Returns a choice with tuples of all kinds that are allowed."""
    chance = random.Random(seed)
    net = circuit.as_net()
    choice = {}
    for node in range(net.first_and, net.node_count):
        for _ in range(6):
            nodes = tuple(chance.sample(range(1, node), min(node - 1, chance.randrange(5))))
            if node not in choice and cuts_off(net, nodes, node):
                choice[node] = nodes
        if node not in choice and chance.random() < 0.5:
            cuts = [nodes for nodes in cuts_of(net, 4)[node - net.first_and] if len(nodes) > 1]
            if cuts:
                choice[node] = chance.choice(cuts)[::-1]
    return choice


# Nodes: 1 a, 2 b, 3 c, 4 p, 5 q, and 6 to 11 the ands.
CIRCUIT = Circuit(
    ["a", "b", "c"], [("p", 0, 20), ("q", 1, 4)],
    [(2, 5), (3, 4), (13, 15), (17, 8), (18, 6), (1, 10)], [("y", 21), ("z", 22)])


class ReplaceConesTest(SuregateTest):
    def test_the_empty_choice(self):
        for circuit in edge_circuits() + [CIRCUIT] + [random_circuit(seed) for seed in range(10)]:
            after, certificate = replace_cones(circuit, {})
            expected, expected_certificate = hash_circuit(circuit)
            self.assertTrue(expected == after)
            self.assertTrue(expected_certificate == certificate)

    def check(self, circuit, choice):
        before = plain(choice)
        after, certificate = check_pass(self, lambda told: replace_cones(told, choice), circuit)
        self.assertEqual(before, plain(choice))
        expected, images = slow_replaced(circuit, choice)
        self.assertTrue(expected == after)
        joined = Joined(circuit, after)
        net = circuit.as_net()
        clauses = [
            same_clauses(joined.from_left(2 * node), joined.from_right(image)) for node, image in enumerate(images)]
        self.assertEqual(sum(clauses[net.first_latch:net.first_and], []), certificate.facts)
        self.assertEqual([], certificate.start_lines + certificate.next_lines)
        # The two clauses of each and stand in order, with other lines only ahead of those of keys.
        lines = certificate.lines
        for node in range(net.first_and, net.node_count):
            place = lines.index(clauses[node][0])
            self.assertEqual(clauses[node], lines[place:place + 2])
            self.assertTrue(place == 0 or node in choice)
            lines = lines[place + 2:]
        self.assertEqual([], lines)
        return after

    def test_by_hand(self):
        # The and 8 is true if a and b are the same; it is built of the network for that.
        self.check(CIRCUIT, {8: (1, 2)})
        self.check(CIRCUIT, {10: (1, 2, 3, 4)})
        self.check(CIRCUIT, {10: (4, 3, 2, 1), 9: (4, 8), 8: (2, 1), 6: (1, 2, 3)})
        self.check(CIRCUIT, {11: (5,)})
        self.check(CIRCUIT, {10: (9, 3), 6: (5, 4, 2, 1)})

    def test_tuples_of_no_and_of_one_node(self):
        circuit = Circuit(["a"], [], [(1, 1), (0, 2), (2, 3), (6, 1), (4, 10)], [("y", 12), ("z", 8)])
        after = self.check(circuit, {2: (), 3: (1,), 4: (1,), 5: (3,), 6: (1,)})
        self.assertEqual([], after.ands)
        self.assertEqual([("y", 0), ("z", 0)], after.outputs)

    def test_a_table_whose_leaves_all_count(self):
        # The sum of four inputs; nothing is known of it before all four are known.
        builder = Builder(4)
        total = builder.unlike(builder.unlike(2, 8), builder.unlike(4, 6))
        circuit = Circuit(["a", "b", "c", "d"], [], builder.pairs, [("y", total)])
        for nodes in ((1, 2, 3, 4), (4, 1, 3, 2)):
            choice = {total // 2: nodes}
            self.check(circuit, choice)
            after, certificate = replace_cones(circuit, choice)
            joined = Joined(circuit, after)
            _, images = slow_replaced(circuit, choice)
            for clause in same_clauses(joined.from_left(total & ~1), joined.from_right(images[total // 2])):
                for marks in itertools.product((0, 1), repeat=4):
                    given = tuple(2 * node + mark for node, mark in zip(nodes, marks))
                    self.assertIn(set(given + clause), [set(line) for line in certificate.lines])

    def test_images_of_leaves_that_meet(self):
        # Both literals of the key come from the same nodes, so that their images are equal, complementary, constant.
        circuit = Circuit(
            ["a", "b"], [], [(2, 4), (4, 2), (6, 9), (7, 8), (6, 8), (12, 14), (13, 14)], [("y", 16), ("z", 18)])
        for node in (5, 6, 7):
            self.check(circuit, {node: (3, 4)})
        self.check(circuit, {5: (3, 4), 6: (3, 4), 7: (3, 4), 8: (6, 7), 9: (4, 3)})
        self.check(circuit, {9: (1, 2), 8: (4, 3), 4: (1, 2)})

    def test_random_choices(self):
        keys = 0
        for seed in range(30):
            for circuit in (random_circuit(seed, 2, 2, 14, 3), tree_circuit(seed, 4, 2, 14)):
                choice = random_choice(seed, circuit)
                keys += len(choice)
                self.check(circuit, choice)
        self.assertGreater(keys, 200)

    def refused(self, key, choice):
        before = plain([CIRCUIT, choice])
        self.assert_error(InvalidCut, {"node": key}, replace_cones, CIRCUIT, choice)
        self.assertEqual(before, plain([CIRCUIT, choice]))

    def test_keys_that_are_no_and(self):
        for key in (-1, 0, 1, 5, 12, 99):
            self.refused(key, {key: ()})
            self.refused(key, {key: (1, 2)})

    def test_wrong_tuples(self):
        self.check(CIRCUIT, {10: (9, 3)})
        self.refused(10, {10: (9, 3, 1, 2, 4)})
        self.refused(10, {10: (9, 3, 9)})
        self.refused(10, {10: (3, 3)})
        self.refused(10, {10: (9, 3, 0)})
        self.refused(10, {10: (0,)})
        self.refused(10, {10: (10,)})
        self.refused(10, {10: (9, 3, 10)})
        self.refused(10, {10: (9, 3, 11)})
        self.refused(10, {10: (9, 3, 12)})
        self.refused(10, {10: (9, 3, -1)})

    def test_nodes_that_do_not_cut_off(self):
        self.refused(10, {10: ()})
        self.refused(10, {10: (3,)})
        self.refused(10, {10: (1, 2, 4)})
        self.refused(10, {10: (6, 7, 3)})
        self.refused(6, {6: (1,)})
        self.refused(11, {11: ()})

    def test_the_smallest_key_is_told(self):
        self.refused(6, {10: (3,), 6: (2,), 8: (1, 2)})
        self.refused(8, {10: (3,), 6: (1, 2), 8: (1, 2, 8)})
        self.refused(2, {10: (3,), 2: (), 20: ()})
        self.refused(12, {12: (1, 2), 10: (9, 3), 40: ()})
        self.refused(-3, {6: (1,), -3: ()})

    def test_too_many_ands(self):
        # The network of the last and is that of the ands of c and b, and then a; the first of them is new.
        ands = chain_ands(1998) + [(2, 4), (6, 2 * (17 + 1998))]
        choice = {17 + 1999: (3, 2, 1)}
        wide = Circuit(NAMES, [], ands, [("y", 2 * (17 + 1999))])
        self.assertEqual(2000, len(replace_cones(wide, {})[0].ands))
        before = plain([wide, choice])
        self.assert_error(InvalidCircuit, {"part": "ands", "index": 2000}, replace_cones, wide, choice)
        self.assertEqual(before, plain([wide, choice]))
        # An invalid key is told first.
        self.assert_error(InvalidCut, {"node": 20}, replace_cones, wide, {20: (1,), **choice})
        ands = chain_ands(1997) + [(2, 4), (6, 2 * (17 + 1997))]
        self.assertEqual(2000, len(replace_cones(Circuit(NAMES, [], ands, []), {17 + 1998: (3, 2, 1)})[0].ands))


NAMES = [f"i{k}" for k in range(16)]


def chain_ands(count):
    """Returns so many ands over the inputs from the fourth on, of which no cone can be built of fewer ands."""
    ands = [(8, 10)]
    for place in range(1, count):
        ands.append((2 * (16 + place) + 1, 12 + 2 * (place % 11)))
    return ands


def badly_built(ands):
    """Returns the ands with seven more that make the and of a, c and d."""
    first = 2 * (17 + len(ands))
    return ands + [
        (2, 4), (2, 5), (first, 6), (first + 2, 6), (first + 4, 8), (first + 6, 8), (first + 9, first + 11)]


def first_cuts(circuit, node):
    """Returns the tuples of which a settled choice may take one."""
    cuts = cuts_of(circuit.as_net(), 4)[node - circuit.as_net().first_and]
    return [nodes for nodes in cuts if len(nodes) >= 2][:8]


class SettledChoiceTest(SuregateTest):
    def count(self, circuit, choice):
        return and_count(replace_cones(circuit, choice)[0])

    def check(self, circuit):
        """Checks that the choice for a circuit is settled; returns it and what it saves."""
        before = plain(circuit)
        choice = settled_choice(circuit)
        self.assertEqual(before, plain(circuit))
        self.assertIs(dict, choice.__class__)
        count = self.count(circuit, choice)
        empty_count = self.count(circuit, {})
        self.assertLessEqual(count, empty_count)
        net = circuit.as_net()
        for node in range(net.first_and, net.node_count):
            cuts = first_cuts(circuit, node)
            self.assertTrue(node not in choice or choice[node] in cuts)
            fewer = {key: nodes for key, nodes in choice.items() if key != node}
            self.assertGreaterEqual(self.count(circuit, fewer), count)
            for nodes in cuts:
                self.assertGreaterEqual(self.count(circuit, {**fewer, node: nodes}), count)
        return choice, empty_count - count

    def test_some_circuits(self):
        saved = 0
        for seed in range(12):
            saved += self.check(random_circuit(seed, 4, 0, 25, 4))[1]
            saved += self.check(tree_circuit(seed, 4, 2, 20))[1]
        self.assertGreater(saved, 0)

    def test_circuits_with_latches(self):
        saved = 0
        for seed in range(25):
            saved += self.check(random_circuit(seed, 2, 4, 18, 2))[1]
        self.assertGreater(saved, 0)

    def test_just_eight_cuts_are_tried(self):
        # In the first three circuits the eighth cut of an and saves ands, in the others the ninth one would.
        for seed, inputs, ands in (
                (1, 4, 12), (84, 4, 17), (4168, 7, 11), (98, 4, 19), (153, 4, 23), (2086, 5, 16)):
            self.check(tree_circuit(seed, inputs, 0, ands))

    def test_edges(self):
        for circuit in edge_circuits():
            self.check(circuit)
        self.assertEqual({}, settled_choice(Circuit([], [], [], [])))
        self.assertEqual({}, settled_choice(Circuit(["a"], [("p", 0, 2)], [], [("y", 4)])))

    def test_cones_that_can_be_built_of_fewer_ands(self):
        ands = badly_built([])
        choice, saved = self.check(Circuit(NAMES, [], ands, [("y", 2 * 23)]))
        self.assertEqual((5, [23]), (saved, list(choice)))
        # The same cone complemented, as a next literal, and not needed at all.
        self.assertEqual(5, self.check(Circuit(NAMES, [], ands, [("y", 2 * 23 + 1)]))[1])
        ands = [tuple(literal + 2 * (literal // 2 > 16) for literal in pair) for pair in ands]
        self.assertEqual(5, self.check(Circuit(NAMES, [("q", 0, 2 * 24)], ands, [("y", 34)]))[1])
        self.assertEqual(0, self.check(Circuit(NAMES, [("q", 0, 2 * 24)], ands, [("y", 2)]))[1])

    def test_latches_that_a_cone_does_not_depend_on(self):
        # The output is a; written as a choice by the latch, it needs the latch and the ands of its next value.
        circuit = Circuit(
            ["a", "b", "c"], [("q", 0, 16)], [(2, 8), (2, 9), (11, 13), (4, 6), (4, 7)], [("y", 15)])
        _, saved = self.check(circuit)
        self.assertEqual(4, saved)
        circuit = Circuit(
            ["a", "b", "c"], [("q", 0, 18)], [(2, 8), (2, 9), (11, 13), (4, 6), (4, 17)], [("y", 15)])
        _, saved = self.check(circuit)
        self.assertEqual(5, saved)

    def test_circuits_that_are_nearly_too_large(self):
        # The cone saves ands only with at least two new ones, for which there is no place among 2000 ands.
        for count, saved in ((1993, 0), (1992, 5)):
            ands = badly_built(chain_ands(count))
            last = 2 * (16 + len(ands))
            circuit = Circuit(NAMES, [], ands, [("y", last), ("z", last - 14)])
            choice = settled_choice(circuit)
            self.assertEqual(1 if saved else 0, len(choice))
            after, certificate = refactor(circuit)
            self.assertEqual(len(ands) - saved, and_count(after))
            self.assertIsNone(fault_of_alike(circuit, after, certificate))

    def test_too_many_cuts(self):
        chain = [(2, 4)] + [(2, 2 * node) for node in range(3, 503)]
        circuit = Circuit(["a", "b"], [], chain, [("y", 2 * 503)])
        for function in (settled_choice, refactor):
            before = plain(circuit)
            self.assert_error(TooHard, {}, function, circuit)
            self.assertEqual(before, plain(circuit))


class RefactorTest(SuregateTest):
    def test_it_refactors_by_the_settled_choice(self):
        for seed in range(10):
            circuit = random_circuit(seed, 3, 2, 30, 3)
            after, certificate = check_pass(self, refactor, circuit)
            expected, expected_certificate = replace_cones(circuit, settled_choice(circuit))
            self.assertTrue(expected == after)
            self.assertTrue(expected_certificate == certificate)

    def test_edges(self):
        for circuit in edge_circuits():
            check_pass(self, refactor, circuit)

    def test_a_large_circuit(self):
        circuit = random_circuit(7, 12, 20, 700, 30)
        after, certificate = refactor(circuit)
        self.assertIsNone(fault_of_alike(circuit, after, certificate))
        self.assertLessEqual(and_count(after), and_count(hash_circuit(circuit)[0]))
        course = random_course(7, 12, 30)
        self.assertEqual(run(circuit, course), run(after, course))


if __name__ == "__main__":
    unittest.main()
