"""Promises [41] to [44] and [46]: passes, hashing, the rules and trimming."""

import unittest

from helpers import SuregateTest, edge_circuits, plain, random_circuit, tree_circuit
from passes_check import check_hashed, check_pass

from suregate.errors import InvalidCircuit
from suregate.graph.builder import Builder, image_of, leaf_images, rebuilt
from suregate.graph.circuit import Circuit
from suregate.graph.joining import Joined
from suregate.judge.alike import fault_of_alike
from suregate.passes.structure import and_count, apply_rules, hash_circuit, needed_nodes, trim


def some_circuits():
    """Returns circuits of many kinds."""
    circuits = edge_circuits()
    circuits += [random_circuit(seed, seed % 4, seed % 3, 25, 3) for seed in range(24)]
    circuits += [tree_circuit(seed) for seed in range(8)]
    return circuits


def slow_hash(circuit):
    """Returns the circuit and the images, by a builder and nothing else."""
    builder = Builder(len(circuit.inputs) + len(circuit.latches))
    images = leaf_images(circuit)
    for left, right in circuit.ands:
        images.append(builder.both(image_of(images, left), image_of(images, right)))
    return rebuilt(circuit, builder, images), images


def results_of_rules(circuit, left, right):
    """Returns the results that the rules of [44] give for two literals, as pairs whose and they are."""
    first_and = circuit.as_net().first_and

    def pairs(literal):
        if literal // 2 < first_and:
            return []
        one, other = circuit.ands[literal // 2 - first_and]
        return [(one, other), (other, one)]

    results = []
    for x, y in ((left, right), (right, left)):
        plain_x, plain_y = x % 2 == 0, y % 2 == 0
        for a, b in pairs(x):
            results += [(x, 1)] * (plain_x and y == a)
            results += [(0, 1)] * (plain_x and y == a ^ 1)
            results += [(y, 1)] * (not plain_x and y == a ^ 1)
            results += [(y, b ^ 1)] * (not plain_x and y == a)
            for c, d in pairs(y):
                results += [(0, 1)] * (plain_x and plain_y and a == c ^ 1)
                results += [(x, d)] * (plain_x and plain_y and a == c)
                results += [(y, 1)] * (not plain_x and plain_y and a == c ^ 1)
                results += [(y, b ^ 1)] * (not plain_x and plain_y and a == c)
                results += [(a ^ 1, 1)] * (not plain_x and not plain_y and a == c and b == d ^ 1)
    return results


class PassesTest(SuregateTest):
    def test_what_holds_for_every_pass(self):
        for change in (hash_circuit, apply_rules, trim):
            for circuit in some_circuits():
                check_pass(self, change, circuit, change is not trim)

    def test_results_are_new(self):
        for change in (hash_circuit, apply_rules, trim):
            circuit = tree_circuit(3)
            first, certificate = change(circuit)
            expected = plain([first, certificate])
            for entries in (first.inputs, first.latches, first.ands, first.outputs, certificate.lines):
                entries.clear()
            self.assertEqual(expected, plain(list(change(circuit))))
            self.assertEqual(plain(tree_circuit(3)), plain(circuit))


class HashTest(unittest.TestCase):
    def test_the_circuit_is_carried_over(self):
        for circuit in some_circuits():
            after, certificate = hash_circuit(circuit)
            expected, images = slow_hash(circuit)
            self.assertTrue(expected == after)
            check_hashed(self, after)
            joined = Joined(circuit, after)
            first_latch, first_and = circuit.as_net().first_latch, circuit.as_net().first_and
            clauses = [
                (joined.from_left(2 * node) ^ mark, joined.from_right(image) ^ 1 ^ mark)
                for node, image in enumerate(images) for mark in (1, 0) if node >= first_latch]
            split = 2 * (first_and - first_latch)
            self.assertEqual((clauses[:split], clauses[split:]), (certificate.facts, certificate.lines))

    def test_by_hand(self):
        ands = [(4, 2), (2, 4), (6, 8), (3, 2), (1, 5), (10, 12), (15, 14), (14, 11)]
        circuit = Circuit(["a", "b"], [], ands, [("y", 16), ("z", 20), ("x", 13)])
        after, _ = hash_circuit(circuit)
        self.assertEqual([(2, 4), (5, 7)], after.ands)
        self.assertEqual([("y", 0), ("z", 8), ("x", 1)], after.outputs)

    def test_ands_that_nothing_needs_stay(self):
        circuit = Circuit(["a", "b"], [], [(2, 4), (3, 5)], [])
        self.assertEqual([(2, 4), (3, 5)], hash_circuit(circuit)[0].ands)


# Inputs p, q, r, s.
P, Q, R, S = 2, 4, 6, 8


def pair_circuit(first_pairs, left, right):
    """Returns a circuit of the given ands over four inputs and one more of two literals, which is the output."""
    ands = list(first_pairs) + [(left, right)]
    return Circuit(["p", "q", "r", "s"], [], ands, [("y", 2 * (4 + len(ands)))])


class RulesTest(unittest.TestCase):
    def check_rules(self, circuit):
        """Checks the last sentence of [44]; returns the new circuit."""
        after, _ = check_pass(self, apply_rules, circuit)
        check_hashed(self, after)
        self.assertLessEqual(len(after.ands), len(circuit.ands))
        for left, right in after.ands:
            self.assertEqual([], results_of_rules(after, left, right))
        return after

    def test_some_circuits(self):
        for circuit in some_circuits() + [random_circuit(seed, 2, 1, 14, 4) for seed in range(120)]:
            self.check_rules(circuit)

    def check_single(self, left_pair, left_mark, y, result_pairs, result):
        """Checks a rule for the literal of one and and another literal, in all exchanges."""
        for a, b in (left_pair, left_pair[::-1]):
            x = 10 ^ left_mark
            for left, right in ((x, y), (y, x)):
                after = self.check_rules(pair_circuit([(a, b)], left, right))
                self.assertEqual([tuple(sorted(left_pair))] + result_pairs, after.ands)
                self.assertEqual([("y", result)], after.outputs)

    def test_rule_1(self):
        for a, b in ((P, Q), (P, Q ^ 1), (P ^ 1, Q), (P ^ 1, Q ^ 1)):
            self.check_single((a, b), 0, a, [], 10)

    def test_rule_2(self):
        for a, b in ((P, Q), (P, Q ^ 1), (P ^ 1, Q), (P ^ 1, Q ^ 1)):
            self.check_single((a, b), 0, a ^ 1, [], 0)

    def test_rule_3(self):
        for a, b in ((P, Q), (P, Q ^ 1), (P ^ 1, Q), (P ^ 1, Q ^ 1)):
            self.check_single((a, b), 1, a ^ 1, [], a ^ 1)

    def test_rule_4(self):
        for a, b in ((P, Q), (P, Q ^ 1), (P ^ 1, Q), (P ^ 1, Q ^ 1)):
            self.check_single((a, b), 1, a, [(a, b ^ 1)], 12)
            self.check_single((b, a), 1, b, [(a ^ 1, b)], 12)

    def check_double(self, left_pair, left_mark, right_pair, right_mark, results):
        """Checks a rule for the literals of two ands in all exchanges; each result is the pairs and the literal."""
        for left in (left_pair, left_pair[::-1]):
            for right in (right_pair, right_pair[::-1]):
                for x, y in ((10 ^ left_mark, 12 ^ right_mark), (12 ^ right_mark, 10 ^ left_mark)):
                    after = self.check_rules(pair_circuit([left, right], x, y))
                    self.assertEqual([tuple(sorted(left)), tuple(sorted(right))], after.ands[:2])
                    self.assertIn((after.ands[2:], after.outputs[0][1]), results)

    def test_rule_5(self):
        for a in (P, P ^ 1):
            for b, d in ((Q, R), (Q ^ 1, R), (Q ^ 1, R ^ 1)):
                self.check_double((a, b), 0, (a ^ 1, d), 0, [([], 0)])

    def test_rule_6(self):
        for a in (P, P ^ 1):
            for b, d in ((Q, R), (Q ^ 1, R), (Q ^ 1, R ^ 1)):
                self.check_double((a, b), 0, (a, d), 0, [([(d, 10)], 14), ([(b, 12)], 14)])

    def test_rule_7(self):
        for a in (P, P ^ 1):
            for b, d in ((Q, R), (Q ^ 1, R), (Q ^ 1, R ^ 1)):
                self.check_double((a, b), 1, (a ^ 1, d), 0, [([], 12)])
                self.check_double((a, b), 0, (a ^ 1, d), 1, [([], 10)])

    def test_rule_8(self):
        for a in (P, P ^ 1):
            for b, d in ((Q, R), (Q ^ 1, R), (Q ^ 1, R ^ 1)):
                self.check_double((a, b), 1, (a, d), 0, [([(b ^ 1, 12)], 14)])
                self.check_double((a, b), 0, (a, d), 1, [([(d ^ 1, 10)], 14)])

    def test_rule_9(self):
        for a in (P, P ^ 1):
            for b in (Q, Q ^ 1):
                self.check_double((a, b), 1, (a, b ^ 1), 1, [([], a ^ 1)])

    def test_no_rule(self):
        # Two complemented literals that share a literal, with different other ones.
        self.check_double((P, Q), 1, (P, R), 1, [([(11, 13)], 14)])
        self.check_double((P, Q), 1, (P ^ 1, R), 1, [([(11, 13)], 14)])
        self.check_double((P, Q), 0, (R, S), 0, [([(10, 12)], 14)])
        self.check_double((P, Q), 1, (P ^ 1, Q ^ 1), 1, [([(11, 13)], 14)])

    def test_the_builder_goes_on_where_no_rule_applies(self):
        circuit = Circuit(["p", "q"], [], [(4, 2), (2, 4), (7, 7), (0, 3), (1, 8)], [("y", 10), ("z", 12), ("x", 14)])
        after = self.check_rules(circuit)
        self.assertEqual([(2, 4)], after.ands)
        self.assertEqual([("y", 7), ("z", 0), ("x", 6)], after.outputs)

    def test_a_result_is_built_by_the_rules_again(self):
        # Rule 4 leads to the and of 11 and 12, and rule 8 then to that of 12 and the complement of r.
        circuit = pair_circuit([(P, R), (P, Q), (11, 13)], 15, 11)
        after = self.check_rules(circuit)
        self.assertEqual([(P, R), (P, Q), (11, 13), (R ^ 1, 12)], after.ands)
        self.assertEqual([("y", 16)], after.outputs)

    def test_a_result_can_be_an_and_that_is_there(self):
        circuit = pair_circuit([(P, Q), (P, Q ^ 1)], 11, P)
        after = self.check_rules(circuit)
        self.assertEqual([(P, Q), (P, Q ^ 1)], after.ands)
        self.assertEqual([("y", 12)], after.outputs)

    def test_large_circuits(self):
        self.check_rules(random_circuit(5, 9, 6, 1500, 8))


class TrimTest(unittest.TestCase):
    def slow_needed(self, circuit):
        net = circuit.as_net()
        needed = {literal // 2 for _, literal in circuit.outputs}
        while True:
            more = set(needed)
            for node in needed:
                if node >= net.first_and:
                    more |= {literal // 2 for literal in net.ands[node - net.first_and]}
                elif node >= net.first_latch:
                    more.add(net.latches[node - net.first_latch][1] // 2)
            if more == needed:
                return [node in needed for node in range(net.node_count)]
            needed = more

    def test_needed_nodes(self):
        for circuit in some_circuits() + [random_circuit(seed, 2, 3, 10, 1) for seed in range(30)]:
            before = plain(circuit)
            needed = needed_nodes(circuit)
            self.assertEqual(self.slow_needed(circuit), needed)
            self.assertTrue(all(entry is True or entry is False for entry in needed))
            self.assertEqual(sum(needed[circuit.as_net().first_and:]), and_count(circuit))
            self.assertIs(int, and_count(circuit).__class__)
            self.assertEqual(before, plain(circuit))

    def test_by_hand(self):
        # Nodes: 1 a, 2 b, 3 p, 4 q, 5 r, 6 to 10 the ands. The latches q and r only read each other.
        circuit = Circuit(
            ["a", "b"], [("p", 1, 17), ("q", 0, 11), ("r", 1, 14)],
            [(2, 6), (8, 3), (13, 2), (10, 8), (16, 12)], [("y", 12), ("z", 7)])
        needed = [False, True, False, True, False, False, True, False, True, False, False]
        self.assertEqual(needed, needed_nodes(circuit))
        self.assertEqual(2, and_count(circuit))
        after, certificate = check_pass(self, trim, circuit, False)
        expected = Circuit(["a", "b"], [("p", 1, 11)], [(2, 6), (9, 2)], [("y", 8), ("z", 7)])
        self.assertTrue(expected == after)
        # The joint nodes: 1 a, 2 b, 3 to 5 the left latches, 6 the right one, 7 to 11 and 12 to 13 the ands.
        self.assertEqual([(7, 12), (6, 13)], certificate.facts)
        self.assertEqual([(15, 24), (14, 25), (19, 26), (18, 27)], certificate.lines)

    def test_latches_that_only_read_each_other(self):
        circuit = Circuit(["a"], [("p", 0, 6), ("q", 1, 8), ("r", 0, 4)], [(4, 6)], [("y", 2)])
        after, _ = check_pass(self, trim, circuit, False)
        self.assertTrue(Circuit(["a"], [], [], [("y", 2)]) == after)
        kept = Circuit(["a"], [("p", 0, 6), ("q", 1, 8), ("r", 0, 4)], [(4, 6)], [("y", 10)])
        self.assertTrue(kept == trim(kept)[0])

    def test_all_inputs_stay(self):
        circuit = Circuit(["a", "b"], [], [(2, 4)], [])
        self.assertTrue(Circuit(["a", "b"], [], [], []) == trim(circuit)[0])
        self.assertEqual([False] * 4, needed_nodes(circuit))
        self.assertEqual(0, and_count(circuit))

    def test_the_constant_can_be_needed(self):
        circuit = Circuit(["a"], [], [(0, 2)], [("y", 1)])
        self.assertEqual([True, False, False], needed_nodes(circuit))
        self.assertTrue(Circuit(["a"], [], [], [("y", 1)]) == trim(circuit)[0])

    def test_results_need_all_they_have(self):
        for circuit in some_circuits():
            after, _ = trim(circuit)
            first_latch = after.as_net().first_latch
            self.assertTrue(all(needed_nodes(after)[first_latch:]))
            self.assertEqual(and_count(circuit), len(after.ands))
            again, certificate = trim(after)
            self.assertTrue(after == again)
            self.assertIsNone(fault_of_alike(after, again, certificate))

    def test_order_names_and_starts_stay(self):
        for seed in range(20):
            circuit = random_circuit(seed, 2, 8, 6, 1)
            first_latch = circuit.as_net().first_latch
            needed = needed_nodes(circuit)
            after, _ = trim(circuit)
            self.assertEqual(
                [latch[:2] for latch, stays in zip(circuit.latches, needed[first_latch:]) if stays],
                [latch[:2] for latch in after.latches])


class LargeCircuitsTest(SuregateTest):
    def test_deep_circuits(self):
        ands = [(2, 4)] + [(2 * node, 2 + node % 2) for node in range(3, 2002)]
        circuit = Circuit(["a", "b"], [], ands, [("y", 4004)])
        for change in (hash_circuit, apply_rules, trim):
            after, certificate = change(circuit)
            self.assertIsNone(fault_of_alike(circuit, after, certificate))

    def test_circuits_are_not_changed_by_refused_ones(self):
        self.assert_error(
            InvalidCircuit, {"part": "ands", "index": 2000}, Circuit, ["a"], [], [(2, 2)] * 2001, [])


if __name__ == "__main__":
    unittest.main()
