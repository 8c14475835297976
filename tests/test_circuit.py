"""Promises [4], [5] and [6]: circuits, and which of their entries are invalid."""

import unittest

from helpers import SuregateTest, random_circuit

from suregate.errors import InvalidCircuit
from suregate.graph.circuit import Circuit, is_name
from suregate.graph.net import Net


def names(first_letter, count):
    return [f"{first_letter}{k}" for k in range(count)]


class NameTest(unittest.TestCase):
    def test_lengths(self):
        self.assertFalse(is_name(""))
        self.assertTrue(is_name("a"))
        self.assertTrue(is_name("abcdefghij_1"))
        self.assertFalse(is_name("abcdefghij_12"))

    def test_answers_are_plain(self):
        self.assertIs(True, is_name("z"))
        self.assertIs(False, is_name("-"))
        self.assertIs(False, is_name(""))

    def test_first_characters(self):
        for character in "abcdefghijklmnopqrstuvwxyz":
            self.assertTrue(is_name(character) and is_name(character + "b"), character)
        for character in "0189_AZ -.\n\t{`@[^'\u00e9\u0430\uff41":
            self.assertFalse(is_name(character) or is_name(character + "b"), character)

    def test_later_characters(self):
        for character in "abcdefghijklmnopqrstuvwxyz0123456789_":
            self.assertTrue(is_name("a" + character) and is_name("a" + character + "b"), character)
        for character in "AZ -.\n\t{`@[^/:'\u00e9\u0430\uff41\u0663\u00b2":
            self.assertFalse(is_name("a" + character) or is_name("a" + character + "b"), character)


class CircuitTest(SuregateTest):
    def refused(self, part, index, inputs, latches, ands, outputs):
        self.assert_error(
            InvalidCircuit, {"part": part, "index": index}, Circuit, inputs, latches, ands, outputs)

    def test_fields(self):
        circuit = Circuit(["a", "b"], [("q", 1, 9)], [(2, 5), (8, 7)], [("y", 10), ("a", 0)])
        self.assertEqual(["a", "b"], circuit.inputs)
        self.assertEqual([("q", 1, 9)], circuit.latches)
        self.assertEqual([(2, 5), (8, 7)], circuit.ands)
        self.assertEqual([("y", 10), ("a", 0)], circuit.outputs)

    def test_empty_circuit(self):
        circuit = Circuit([], [], [], [])
        self.assertEqual(([], [], [], []), (circuit.inputs, circuit.latches, circuit.ands, circuit.outputs))

    def test_fields_are_new_lists(self):
        lists = [["a"], [("q", 0, 2)], [(2, 4)], [("y", 6)]]
        circuit = Circuit(*lists)
        for entries in lists:
            entries.clear()
        self.assertEqual(Circuit(["a"], [("q", 0, 2)], [(2, 4)], [("y", 6)]), circuit)

    def test_as_net(self):
        circuit = Circuit(["a", "b"], [("q", 1, 9), ("r", 0, 2)], [(2, 5)], [("y", 10)])
        net = circuit.as_net()
        self.assertIs(Net, net.__class__)
        self.assertEqual((2, [(1, 9), (0, 2)], [(2, 5)]), (net.input_count, net.latches, net.ands))
        net.latches.clear()
        net.ands.clear()
        self.assertEqual([(1, 9), (0, 2)], circuit.as_net().latches)
        self.assertEqual([(2, 5)], circuit.ands)
        self.assertIsNot(circuit.as_net(), circuit.as_net())

    def test_greatest_numbers_of_entries(self):
        Circuit(
            names("i", 16), [(name, 0, 0) for name in names("q", 40)], [(0, 0)] * 2000,
            [(name, 0) for name in names("o", 32)])

    def test_surplus_entries(self):
        self.refused("inputs", 16, names("i", 17), [], [], [])
        self.refused("inputs", 16, names("i", 19), [], [], [])
        self.refused("latches", 40, [], [(name, 0, 0) for name in names("q", 41)], [], [])
        self.refused("ands", 2000, [], [], [(0, 0)] * 2001, [])
        self.refused("outputs", 32, [], [], [], [(name, 0) for name in names("o", 33)])

    def test_an_invalid_entry_before_a_surplus_one_is_told(self):
        self.refused("inputs", 3, names("i", 3) + ["i1"] + names("j", 20), [], [], [])
        self.refused("ands", 5, [], [], [(0, 0)] * 5 + [(12, 0)] + [(0, 0)] * 2000, [])

    def test_names_of_inputs(self):
        for wrong in ("", "abcdefghijklm", "A", "1a", "_a", "a-", "a b"):
            self.refused("inputs", 1, ["a", wrong], [], [], [])
            self.refused("latches", 1, [], [("a", 0, 0), (wrong, 0, 0)], [], [])
            self.refused("outputs", 1, [], [], [], [("a", 0), (wrong, 0)])
        Circuit(["abcdefghij_1"], [("bbcdefghij_1", 0, 0)], [], [("cbcdefghij_1", 0)])

    def test_names_that_are_there_already(self):
        self.refused("inputs", 2, ["a", "b", "a"], [], [], [])
        self.refused("latches", 1, ["a", "b"], [("q", 0, 0), ("b", 0, 0)], [], [])
        self.refused("latches", 2, ["a"], [("q", 0, 0), ("r", 0, 0), ("q", 0, 0)], [], [])
        self.refused("outputs", 2, [], [], [], [("x", 0), ("y", 0), ("x", 0)])

    def test_outputs_may_have_names_of_inputs_and_latches(self):
        circuit = Circuit(["a"], [("q", 0, 0)], [], [("a", 2), ("q", 4)])
        self.assertEqual([("a", 2), ("q", 4)], circuit.outputs)

    def test_start_values(self):
        Circuit([], [("p", 0, 0), ("q", 1, 0)], [], [])
        for wrong in (-1, 2, 3):
            self.refused("latches", 1, [], [("p", 0, 0), ("q", wrong, 0)], [], [])

    def test_next_literals(self):
        # Nodes 0 to 4, so literals 0 to 9: the constant, two inputs, a latch, an and.
        for literal in range(10):
            circuit = Circuit(["a", "b"], [("q", 0, literal)], [(2, 4)], [])
            self.assertEqual([("q", 0, literal)], circuit.latches)
        for literal in (-2, -1, 10, 11):
            self.refused("latches", 0, ["a", "b"], [("q", 0, literal)], [(2, 4)], [])

    def test_literals_of_outputs(self):
        for literal in range(10):
            circuit = Circuit(["a", "b"], [("q", 0, 0)], [(2, 4)], [("y", literal)])
            self.assertEqual([("y", literal)], circuit.outputs)
        for literal in (-2, -1, 10, 11):
            self.refused("outputs", 1, ["a", "b"], [("q", 0, 0)], [(2, 4)], [("x", 0), ("y", literal)])

    def test_literals_of_ands(self):
        # The and with index 1 is node 4, so its literals are from 0 to 7.
        for literal in range(8):
            Circuit(["a"], [("q", 0, 0)], [(0, 0), (literal, 0)], [])
            Circuit(["a"], [("q", 0, 0)], [(0, 0), (0, literal)], [])
        for literal in (-2, -1, 8, 9, 10, 11):
            self.refused("ands", 1, ["a"], [("q", 0, 0)], [(0, 0), (literal, 0), (0, 0)], [])
            self.refused("ands", 1, ["a"], [("q", 0, 0)], [(0, 0), (0, literal), (0, 0)], [])

    def test_first_and_alone(self):
        Circuit([], [], [(0, 1)], [])
        self.refused("ands", 0, [], [], [(2, 0)], [])

    def test_surplus_entries_count_as_nodes(self):
        # With 41 latches and no ands there are 42 nodes, so literal 83 is right for the first latch.
        latches = [(name, 0, 83) for name in names("q", 41)]
        self.refused("latches", 40, [], latches, [], [])
        self.refused("latches", 0, [], [(name, 0, 84) for name, _, _ in latches], [], [])
        self.refused("ands", 2000, [], [("q", 0, 2 * 2002 + 1)], [(0, 0)] * 2001, [])

    def test_parts_are_looked_at_in_order(self):
        bad_inputs, bad_latches, bad_ands, bad_outputs = ["a", ""], [("q", 2, 0)], [(99, 0)], [("Y", 0)]
        self.refused("inputs", 1, bad_inputs, bad_latches, bad_ands, bad_outputs)
        self.refused("latches", 0, ["a"], bad_latches, bad_ands, bad_outputs)
        self.refused("ands", 0, ["a"], [("q", 1, 0)], bad_ands, bad_outputs)
        self.refused("outputs", 0, ["a"], [("q", 1, 0)], [(0, 0)], bad_outputs)

    def test_entries_are_looked_at_in_order(self):
        self.refused("inputs", 1, ["a", "a", "", "B"], [], [], [])
        self.refused("latches", 1, [], [("q", 0, 0), ("r", 5, 0), ("", 0, 0), ("q", 0, 0)], [], [])
        self.refused("ands", 1, [], [], [(0, 0), (0, 4), (-1, 0)], [])
        self.refused("outputs", 0, [], [], [], [("x", 2), ("x", 0), ("", 0)])

    def test_equal_circuits(self):
        for seed in range(5):
            self.assertTrue(random_circuit(seed) == random_circuit(seed))
            self.assertFalse(random_circuit(seed) != random_circuit(seed))

    def test_changed_circuits_are_not_equal(self):
        lists = [["a", "b"], [("q", 1, 9)], [(2, 5), (8, 7)], [("y", 10), ("a", 0)]]
        changes = [
            (0, ["a", "c"]), (0, ["b", "a"]), (1, [("p", 1, 9)]), (1, [("q", 0, 9)]), (1, [("q", 1, 8)]),
            (2, [(2, 4), (8, 7)]), (2, [(5, 2), (8, 7)]), (3, [("z", 10), ("a", 0)]), (3, [("y", 11), ("a", 0)]),
            (3, [("a", 0), ("y", 10)]), (3, [("y", 10)])]
        for place, changed in changes:
            others = lists[:place] + [changed] + lists[place + 1:]
            self.assertFalse(Circuit(*lists) == Circuit(*others), changed)
            self.assertTrue(Circuit(*lists) != Circuit(*others), changed)

    def test_other_values_are_not_equal(self):
        class EqualToAll:
            def __eq__(self, other):
                return True

        circuit = Circuit(["a"], [], [], [])
        others = (None, 0, "circuit", (["a"], [], [], []), [["a"], [], [], []], circuit.as_net(), EqualToAll())
        for other in others:
            self.assertIs(False, circuit == other)


if __name__ == "__main__":
    unittest.main()
