"""Promise [84]: the judge of netlists that cover a circuit."""

import random
import unittest

from helpers import SuregateTest, edge_circuits, plain, random_circuit, tree_circuit
from mapping_check import slow_fault_of_cover

from suregate.graph.circuit import Circuit
from suregate.judge.cover import fault_of_cover
from suregate.mapping.covers import map_circuit
from suregate.mapping.netlist import Netlist

# The nodes 1 to 3 are inputs, 4 a latch; the ands are 5 = a and b, 6 = not 5 and c, 7 = 6 and the latch.
CIRCUIT = Circuit(["a", "b", "c"], [("q", 1, 15)], [(2, 4), (11, 6), (12, 8)], [("y", 12), ("z", 13), ("w", 0)])
# The signals 0 to 3 stand for the inputs and the latch, 4 to 8 for the literals told here.
LITERALS = [12, 13, 15, 0, 10]
TABLES = [((0, 1, 2), 0b01110000), ((4,), 1), ((4, 3), 7), ((), 0), ((1, 0), 8)]
REGISTERS = [("q", 1, 6)]
OUTPUTS = [("y", 4), ("z", 5), ("w", 7)]


def netlist_with(inputs=("a", "b", "c"), registers=REGISTERS, tables=TABLES, outputs=OUTPUTS):
    return Netlist(list(inputs), registers, tables, outputs)


class CoverTest(SuregateTest):
    def check(self, expected, netlist, literals, circuit=CIRCUIT):
        before = plain([circuit, netlist, literals])
        self.assertEqual(expected, fault_of_cover(circuit, netlist, literals))
        self.assertEqual(before, plain([circuit, netlist, literals]))
        self.assertEqual(expected, slow_fault_of_cover(circuit, netlist, literals))

    def test_cover(self):
        self.check(None, netlist_with(), LITERALS)
        self.check(None, Netlist([], [], [], []), [], Circuit([], [], [], []))
        self.check(None, Netlist(["a"], [("q", 0, 0)], [], [("y", 1)]), [], Circuit(["a"], [("q", 0, 2)], [], [("y", 4)]))

    def test_interface(self):
        for netlist in (
                netlist_with(inputs=("a", "c", "b")), netlist_with(inputs=("a", "b", "d")),
                netlist_with(registers=[("r", 1, 6)]), netlist_with(registers=[("q", 0, 6)]),
                netlist_with(outputs=OUTPUTS[:2]), netlist_with(outputs=[OUTPUTS[1], OUTPUTS[0], OUTPUTS[2]]),
                netlist_with(outputs=OUTPUTS + [("v", 4)]),
                netlist_with(registers=REGISTERS + [("r", 0, 6)], tables=[((), 0)] * 6),
                Netlist(["a", "b"], REGISTERS, [((), 0)] * 5, OUTPUTS), Netlist([], [], [], [])):
            self.check(("interface", 0), netlist, LITERALS)
            # Nothing else is told ahead of it.
            self.check(("interface", 0), netlist, [-1])

    def test_literals(self):
        self.check(("literals", 0), netlist_with(), [])
        self.check(("literals", 4), netlist_with(), LITERALS[:4])
        self.check(("literals", 5), netlist_with(), LITERALS + [0])
        for wrong in (-1, 16, 100, -16):
            for index in range(5):
                told = LITERALS[:index] + [wrong] + LITERALS[index + 1:]
                self.check(("literals", index), netlist_with(), told)
                self.check(("literals", index), netlist_with(), told[:index + 1])
                self.check(("literals", index), netlist_with(), told + [wrong])
        self.check(("literals", 2), netlist_with(), [1, 1])
        self.check(("literals", 0), Netlist([], [], [], []), [0], Circuit([], [], [], []))
        # A wrong literal is told ahead of a wrong table before it.
        self.check(("literals", 4), netlist_with(), [13, 13, 15, 0, 99])

    def test_table_for_the_complement(self):
        for index, literal in enumerate(LITERALS):
            told = LITERALS[:index] + [literal ^ 1] + LITERALS[index + 1:]
            self.check(("tables", index), netlist_with(), told)

    def test_table_that_is_wrong_at_one_point(self):
        for index, (pins, table) in enumerate(TABLES):
            for point in range(2 ** len(pins)):
                tables = TABLES[:index] + [(pins, table ^ 1 << point)] + TABLES[index + 1:]
                self.check(("tables", index), netlist_with(tables=tables), LITERALS)

    def test_pins_that_can_never_be_so(self):
        # The pins 4 and 5 stand for a literal and its complement, and 7 for the constant.
        for table in (0b0010, 0b0011, 0b1010, 0b1011):
            self.check(None, netlist_with(tables=TABLES + [((4, 5), table)]), LITERALS + [12])
        for table in (0b0000, 0b0110, 0b0100):
            self.check(("tables", 5), netlist_with(tables=TABLES + [((4, 5), table)]), LITERALS + [12])
        for table in (0b0001, 0b0101, 0b1001, 0b1101):
            self.check(None, netlist_with(tables=TABLES + [((4, 7), table)]), LITERALS + [13])
        self.check(("tables", 5), netlist_with(tables=TABLES + [((4, 7), 0b0011)]), LITERALS + [13])
        # Pins that occur twice.
        for table in (0b1000, 0b1110, 0b1100, 0b1010):
            self.check(None, netlist_with(tables=TABLES + [((4, 4), table)]), LITERALS + [12])
        self.check(("tables", 5), netlist_with(tables=TABLES + [((4, 4), 0b1001)]), LITERALS + [12])

    def test_nodes_take_any_values(self):
        # The and 7 is never true where the and 6 is not; but its pins take any values whatever they are in the net.
        netlist = netlist_with(tables=TABLES + [((0, 8), 0b1000), ((0, 8), 0b1100)])
        self.check(("tables", 5), netlist, LITERALS + [10, 10])
        self.check(None, netlist_with(tables=TABLES + [((0, 8), 0b1100)]), LITERALS + [10])

    def test_pins_that_do_not_cut_off(self):
        # The and 6 hangs on a, b and c; the table is right for the points that can be told.
        for pins, table in (((0, 1), 0b0111), ((2,), 0b10), ((), 0), ((0, 2, 3), 0b01010000), ((7, 7), 0)):
            self.check(("tables", 5), netlist_with(tables=TABLES + [(pins, table)]), LITERALS + [12])
        # The and 5 and c do.
        self.check(None, netlist_with(tables=TABLES + [((8, 2), 0b0100)]), LITERALS + [12])
        self.check(None, netlist_with(tables=TABLES + [((2, 8, 3), 0b00100010)]), LITERALS + [12])

    def test_tables_of_constants_and_leaves(self):
        for pins, table, literal in (((), 0, 0), ((), 1, 1), ((0,), 1, 3), ((0,), 2, 2), ((3, 0), 0b0101, 9), ((0,), 0, 0)):
            self.check(None, netlist_with(tables=TABLES + [(pins, table)]), LITERALS + [literal])
            self.check(("tables", 5), netlist_with(tables=TABLES + [(pins, table)]), LITERALS + [literal ^ 1])
        self.check(("tables", 5), netlist_with(tables=TABLES + [((1,), 2)]), LITERALS + [2])

    def test_odd_pins(self):
        # Pins that stand for odd literals, and for the constant true.
        for table, even, odd in ((0b0100, None, ("tables", 7)), (0b1000, ("tables", 7), None)):
            tables = TABLES + [((5, 3), 0b1011), ((), 1), ((9, 10), table)]
            self.check(even, netlist_with(tables=tables), LITERALS + [15, 1, 14])
            self.check(odd, netlist_with(tables=tables), LITERALS + [15, 1, 15])

    def test_registers_and_outputs(self):
        # The literal must be the very same one, not only one with the same value.
        circuit = Circuit(["a"], [("p", 0, 8), ("q", 0, 10)], [(2, 2), (2, 2)], [("x", 10), ("y", 8)])
        tables = [((0,), 2), ((0,), 2)]
        registers = [("p", 0, 3), ("q", 0, 4)]
        outputs = [("x", 4), ("y", 3)]
        self.check(None, Netlist(["a"], registers, tables, outputs), [8, 10], circuit)
        for index in (0, 1):
            wrong = list(registers)
            wrong[index] = (*wrong[index][:2], 7 - wrong[index][2])
            self.check(("registers", index), Netlist(["a"], wrong, tables, outputs), [8, 10], circuit)
            self.check(("registers", index), Netlist(["a"], wrong, tables, [("x", 0), ("y", 0)]), [8, 10], circuit)
            wrong = list(outputs)
            wrong[index] = (wrong[index][0], 7 - wrong[index][1])
            self.check(("outputs", index), Netlist(["a"], registers, tables, wrong), [8, 10], circuit)
            self.check(("tables", 1), Netlist(["a"], registers, [((0,), 2), ((0,), 1)], wrong), [8, 10], circuit)

    def test_mappings_and_changed_ones(self):
        chance = random.Random(7)
        told = {}
        circuits = edge_circuits() + [random_circuit(seed, 3, 2, 12, 3) for seed in range(15)]
        circuits += [tree_circuit(seed, 4, 2, 12, 3) for seed in range(15)]
        for circuit in circuits:
            mapping = map_circuit(circuit, chance.randrange(2, 7))
            netlist = mapping.netlist
            self.check(None, netlist, mapping.literals, circuit)
            for _ in range(8):
                tables, literals = list(netlist.tables), list(mapping.literals)
                registers, outputs = list(netlist.registers), list(netlist.outputs)
                if tables and chance.random() < 0.6:
                    place = chance.randrange(len(tables))
                    pins, table = tables[place]
                    tables[place] = (pins, table ^ 1 << chance.randrange(2 ** len(pins)))
                elif literals and chance.random() < 0.4:
                    literals[chance.randrange(len(literals))] ^= chance.choice((1, 2, 3))
                elif outputs:
                    place = chance.randrange(len(outputs))
                    outputs[place] = (outputs[place][0], chance.randrange(len(circuit.inputs) + len(registers) + len(tables) or 1))
                try:
                    wrong = Netlist(netlist.inputs, registers, tables, outputs)
                except ValueError:
                    continue
                answer = fault_of_cover(circuit, wrong, literals)
                self.assertEqual(slow_fault_of_cover(circuit, wrong, literals), answer)
                part = answer[0] if answer else None
                told[part] = told.get(part, 0) + 1
        self.assertGreater(min(told["tables"], told["outputs"]), 20)


if __name__ == "__main__":
    unittest.main()
