"""Promises [84] to [88]: circuits mapped to tables, and netlists as circuits."""

import random
import unittest

from helpers import SuregateTest, edge_circuits, plain, random_circuit, random_course, tree_circuit
from mapping_check import covered_literals, slow_fault_of_cover, slow_fault_of_ways, slow_labels
from random_netlists import random_netlist

from suregate.errors import InvalidCircuit, InvalidCount
from suregate.graph.circuit import Circuit
from suregate.mapping.covers import Mapping, map_circuit, netlist_circuit
from suregate.mapping.netlist import Netlist, netlist_depth, run_netlist, signal_levels
from suregate.runs.plain import run
from suregate.tables.networks import network_for


def needed_literals(circuit, mapping):
    """Returns the literals of the tables that are needed, as [87] tells it, given the pins that the tables have."""
    stands_for = covered_literals(circuit, mapping.netlist, mapping.literals)
    tables = {
        literal: table for literal, table in zip(mapping.literals, mapping.netlist.tables)}
    first_and = circuit.as_net().first_and
    waiting = [literal for _, _, literal in circuit.latches] + [literal for _, literal in circuit.outputs]
    waiting = [literal for literal in waiting if literal % 2 or not 0 < literal // 2 < first_and]
    needed = set()
    while waiting:
        literal = waiting.pop()
        if literal not in needed:
            needed.add(literal)
            pins, _ = tables[literal]
            waiting += [stands_for[pin] for pin in pins if stands_for[pin] // 2 >= first_and]
    return sorted(needed)


class MappingTest(SuregateTest):
    def check(self, circuit, size):
        """Checks a mapping by [87], except that the labels are the right ones; returns it."""
        before = plain(circuit)
        mapping = map_circuit(circuit, size)
        self.assertEqual(before, plain(circuit))
        self.assertIs(Mapping, mapping.__class__)
        self.assertIs(Netlist, mapping.netlist.__class__)
        netlist, literals = mapping.netlist, mapping.literals
        self.assertIsNone(slow_fault_of_cover(circuit, netlist, literals))
        self.assertIsNone(slow_fault_of_ways(circuit, size, mapping.labels, mapping.ways))
        self.assertEqual(needed_literals(circuit, mapping), literals)
        first_and = circuit.as_net().first_and
        stands_for = covered_literals(circuit, netlist, literals)
        levels = signal_levels(netlist)
        for signal, (pins, table) in enumerate(netlist.tables, start=first_and - 1):
            node = stands_for[signal] // 2
            self.assertLessEqual(len(pins), size)
            self.assertTrue(all(stands_for[pin] % 2 == 0 for pin in pins))
            if node >= first_and:
                self.assertLessEqual(levels[signal], mapping.labels[node - first_and])
            else:
                self.assertIn(pins, ((), (node - 1,)))
        return mapping

    def test_small_circuits(self):
        circuits = edge_circuits()
        circuits += [random_circuit(seed, 2, 2, 9, 3) for seed in range(12)]
        circuits += [tree_circuit(seed, 5, 1, 9, 2) for seed in range(12)]
        higher = 0
        for circuit in circuits:
            for size in range(2, 7):
                mapping = self.check(circuit, size)
                self.assertEqual(slow_labels(circuit.as_net(), size), mapping.labels)
                higher += max(mapping.labels, default=0) > 1
        self.assertGreater(higher, 30)

    def test_runs(self):
        for seed in range(30):
            circuit = random_circuit(seed, 1 + seed % 4, seed % 5, 30, 3)
            course = random_course(seed, len(circuit.inputs), 20)
            for size in range(2, 7):
                mapping = self.check(circuit, size)
                self.assertEqual(run(circuit, course), run_netlist(mapping.netlist, course))

    def test_sizes(self):
        circuit = random_circuit(1)
        for size in (1, 7, 0, -1, 100):
            for told in (circuit, Circuit([], [], [], [])):
                self.assert_error(InvalidCount, {}, map_circuit, told, size)

    def test_circuits_without_ands(self):
        circuit = Circuit(["a", "b"], [("q", 1, 7), ("r", 0, 2)], [], [("v", 0), ("w", 1), ("x", 3), ("y", 4), ("z", 1)])
        for size in range(2, 7):
            mapping = self.check(circuit, size)
            self.assertEqual([0, 1, 3, 7], mapping.literals)
            self.assertEqual(([], []), (mapping.labels, mapping.ways))
            self.assertEqual([[0, 1, 0, 0, 1], [0, 1, 1, 1, 1]], run_netlist(mapping.netlist, [[1, 0], [0, 1]]))
        mapping = self.check(Circuit([], [], [], []), 2)
        self.assertEqual(Netlist([], [], [], []), mapping.netlist)

    def test_even_literals_of_leaves_need_no_table(self):
        mapping = self.check(Circuit(["a"], [("q", 0, 4), ("r", 1, 2)], [(2, 4)], [("y", 6), ("z", 2)]), 4)
        self.assertEqual(Netlist(["a"], [("q", 0, 1), ("r", 1, 0)], [], [("y", 2), ("z", 0)]), mapping.netlist)
        self.assertEqual(([], [1], [[]]), (mapping.literals, mapping.labels, mapping.ways))

    def test_both_literals_of_an_and(self):
        mapping = self.check(Circuit(["a", "b"], [], [(2, 5)], [("y", 6), ("z", 7), ("x", 7)]), 2)
        self.assertEqual([6, 7], mapping.literals)
        self.assertEqual([2, 3, 3], [signal for _, signal in mapping.netlist.outputs])

    def test_labels(self):
        # A row of ands over seven inputs.
        row = Circuit(
            [f"i{k}" for k in range(7)], [], [(2, 4), (6, 16), (8, 18), (10, 20), (12, 22), (14, 24)], [("y", 26)])
        expected = {
            2: [1, 2, 3, 4, 5, 6], 3: [1, 1, 2, 2, 3, 3], 4: [1, 1, 1, 2, 2, 2], 5: [1, 1, 1, 1, 2, 2],
            6: [1, 1, 1, 1, 1, 2]}
        for size, labels in expected.items():
            mapping = self.check(row, size)
            self.assertEqual(labels, mapping.labels)
            self.assertEqual(labels[-1], netlist_depth(mapping.netlist))
        # An and that is the same over and over needs a single table.
        same = Circuit(["a", "b"], [], [(2, 4), (6, 2), (8, 4), (10, 6)], [("y", 12)])
        self.assertEqual([1, 1, 1, 1], self.check(same, 2).labels)
        # Ands of constants have the empty cut, and what is behind them, too.
        constant = Circuit(["a"], [], [(0, 1), (5, 4), (1, 6)], [("y", 9), ("z", 8)])
        mapping = self.check(constant, 2)
        self.assertEqual([1, 1, 1], mapping.labels)
        self.assertEqual([((), 0), ((), 1)], mapping.netlist.tables)

    def test_large_circuits(self):
        for size, kind in ((2, random_circuit), (3, tree_circuit), (4, random_circuit), (6, tree_circuit)):
            circuit = kind(size, 16, 40, 1200, 8)
            mapping = map_circuit(circuit, size)
            course = random_course(1, 16, 6)
            self.assertEqual(run(circuit, course), run_netlist(mapping.netlist, course))
            self.assertIsNone(slow_fault_of_ways(circuit, size, mapping.labels, mapping.ways))

    def test_greatest_circuit(self):
        # Each and has an even and an odd literal that is read, so there are 4000 tables and more.
        ands = [(2, 4)] + [(2 * (57 + k), 2 * (3 + k % 54)) for k in range(1999)]
        latches = [(f"q{k}", 0, 2 * (2000 + k) + k % 2) for k in range(40)]
        circuit = Circuit([f"i{k}" for k in range(16)], latches, ands, [(f"o{k}", k) for k in range(32)])
        mapping = map_circuit(circuit, 2)
        course = random_course(1, 16, 6)
        self.assertEqual(run(circuit, course), run_netlist(mapping.netlist, course))
        self.assertEqual([1, 2, 3], mapping.labels[:3])

    def test_fields_are_new_lists(self):
        netlist = Netlist(["a"], [], [], [])
        literals, labels, ways = [1, 2], [3, 4], [[[1, 2]], []]
        mapping = Mapping(netlist, literals, labels, ways)
        literals.clear()
        labels.clear()
        ways[0][0].clear()
        ways[1].append([])
        self.assertEqual(
            (netlist, [1, 2], [3, 4], [[[1, 2]], []]),
            (mapping.netlist, mapping.literals, mapping.labels, mapping.ways))


class NetlistCircuitTest(SuregateTest):
    def check(self, netlist):
        before = plain(netlist)
        circuit = netlist_circuit(netlist)
        self.assertEqual(before, plain(netlist))
        self.assertEqual(netlist.inputs, circuit.inputs)
        self.assertEqual([told[:2] for told in netlist.registers], [latch[:2] for latch in circuit.latches])
        self.assertEqual([name for name, _ in netlist.outputs], [name for name, _ in circuit.outputs])
        self.assertLessEqual(len(circuit.ands), sum(3 * 2 ** len(pins) for pins, _ in netlist.tables))
        for seed in range(3):
            course = random_course(seed, len(netlist.inputs), 12)
            self.assertEqual(run_netlist(netlist, course), run(circuit, course))
        return circuit

    def test_small_netlists(self):
        for seed in range(60):
            self.check(random_netlist(seed))

    def test_netlists_of_mappings(self):
        for seed in range(8):
            circuit = random_circuit(seed, 3, 3, 25, 3)
            for size in (2, 4, 6):
                netlist = map_circuit(circuit, size).netlist
                self.check(netlist)

    def test_each_number_of_pins(self):
        chance = random.Random(2)
        for count in range(7):
            for _ in range(12):
                tables = [(tuple(chance.sample(range(6), count)), chance.randrange(2 ** 2 ** count))]
                self.check(Netlist([f"i{k}" for k in range(6)], [], tables, [("y", 6)]))

    def test_edges(self):
        self.assertEqual(Circuit([], [], [], []), self.check(Netlist([], [], [], [])))
        netlist = Netlist(["a"], [("q", 1, 1), ("r", 0, 0)], [], [("y", 2), ("a", 0)])
        self.assertEqual(Circuit(["a"], [("q", 1, 4), ("r", 0, 2)], [], [("y", 6), ("a", 2)]), self.check(netlist))
        self.check(Netlist(["a"], [("q", 1, 2)], [((), 1), ((), 0), ((0, 0), 9), ((0, 1, 0), 0b10010110)], [("y", 5), ("z", 4)]))

    def test_too_many_ands(self):
        # A row of tables, of which each one takes just as many ands as a network for it.
        cost = len(network_for(8, 2)[0])
        self.assertEqual(1, cost)
        names = ["a", "b"]

        def row(count, more):
            tables = [((0, 1), 8)] + [((1 + k, k % 2), 4) for k in range(1, count)]
            return Netlist(names, [], tables + more, [("y", 1 + count)])

        self.assertEqual(2000, len(self.check(row(2000, [])).ands))
        self.assert_error(InvalidCircuit, {"part": "ands", "index": 2000}, netlist_circuit, row(2001, []))
        self.assert_error(InvalidCircuit, {"part": "ands", "index": 2000}, netlist_circuit, row(2000, [((5, 0), 1)] * 2))
        names = [f"i{k}" for k in range(6)]
        # The same tables over the same pins, again and again, take no more ands than once.
        self.check(Netlist(names, [], [((0, 1, 2, 3, 4, 5), 7 ** k) for k in range(10, 13)] * 1300, []))
        chance = random.Random(1)
        hard = [((0, 1, 2, 3, 4, k), chance.randrange(2 ** 64)) for k in range(5, 4100)]
        self.assert_error(
            InvalidCircuit, {"part": "ands", "index": 2000}, netlist_circuit, Netlist(names, [], hard, []))


if __name__ == "__main__":
    unittest.main()
