"""Promises [81] to [83]: netlists, their runs and their levels."""

import unittest

from helpers import SuregateTest, plain, random_course
from random_netlists import random_netlist

from suregate.errors import InvalidCourse, InvalidNetlist
from suregate.graph.circuit import Circuit
from suregate.mapping.netlist import Netlist, netlist_depth, run_netlist, signal_levels, signal_values

# The signals 0 and 1 are inputs, 2 and 3 registers, 4 to 7 tables.
INPUTS = ["a", "b"]
REGISTERS = [("q", 0, 4), ("r", 1, 2)]
TABLES = [((0, 3), 6), ((), 1), ((4, 4, 1), 128), ((6,), 1)]
OUTPUTS = [("y", 7), ("a", 0)]
NETLIST = Netlist(INPUTS, REGISTERS, TABLES, OUTPUTS)


def slow_values(netlist, state, row):
    """Returns the values of all signals, point by point, as [81] and [47] tell it."""
    values = list(row) + list(state)
    for pins, table in netlist.tables:
        point = sum(values[pin] * 2 ** leaf for leaf, pin in enumerate(pins))
        values.append(table // 2 ** point % 2)
    return values


def slow_run(netlist, course):
    """Returns the outputs of a course as [82] tells it."""
    state = [start for _, start, _ in netlist.registers]
    answers = []
    for row in course:
        values = slow_values(netlist, state, row)
        answers.append([values[signal] for _, signal in netlist.outputs])
        state = [values[signal] for _, _, signal in netlist.registers]
    return answers


def slow_level(netlist, signal):
    """Returns the level of a signal as [83] tells it."""
    index = signal - len(netlist.inputs) - len(netlist.registers)
    if index < 0:
        return 0
    pins, _ = netlist.tables[index]
    return 1 + max([slow_level(netlist, pin) for pin in pins]) if pins else 1


class NetlistTest(SuregateTest):
    def check_invalid(self, part, index, inputs=INPUTS, registers=REGISTERS, tables=TABLES, outputs=OUTPUTS):
        arguments = [list(inputs), list(registers), list(tables), list(outputs)]
        before = plain(arguments)
        self.assert_error(InvalidNetlist, {"part": part, "index": index}, Netlist, *arguments)
        self.assertEqual(before, plain(arguments))

    def test_fields(self):
        self.assertEqual(
            (INPUTS, REGISTERS, TABLES, OUTPUTS),
            (NETLIST.inputs, NETLIST.registers, NETLIST.tables, NETLIST.outputs))
        empty = Netlist([], [], [], [])
        self.assertEqual(([], [], [], []), (empty.inputs, empty.registers, empty.tables, empty.outputs))

    def test_names_of_inputs(self):
        Netlist(["a", "abcdefghijkl", "a_9"], [], [], [])
        for name in ("", "A", "9a", "_a", "a-b", "abcdefghijklm", "aB", "a b"):
            self.check_invalid("inputs", 1, inputs=["a", name])
        self.check_invalid("inputs", 2, inputs=["a", "b", "a", "b"])
        self.check_invalid("inputs", 16, inputs=[f"i{k}" for k in range(17)])
        self.check_invalid("inputs", 3, inputs=["a", "b", "c", "a"] + [f"i{k}" for k in range(17)])
        self.assertEqual(16, len(Netlist([f"i{k}" for k in range(16)], [], [], []).inputs))

    def test_registers(self):
        for name in ("", "Q", "a", "b", "q"):
            self.check_invalid("registers", 1, registers=[("q", 0, 4), (name, 1, 2)])
        for start in (-1, 2):
            self.check_invalid("registers", 1, registers=[("q", 0, 4), ("r", start, 2)])
        for signal in (-1, 8, 100):
            self.check_invalid("registers", 1, registers=[("q", 0, 4), ("r", 1, signal)])
        Netlist(INPUTS, [("q", 0, 7), ("r", 1, 0)], TABLES, OUTPUTS)
        many = [(f"q{k}", 0, 0) for k in range(41)]
        self.assertEqual(40, len(Netlist(INPUTS, many[:40], [], []).registers))
        self.check_invalid("registers", 40, registers=many, tables=[])

    def test_signals_are_counted_with_surplus_entries(self):
        many = [(f"q{k}", 0, 0) for k in range(40)] + [("r", 0, 42)]
        self.check_invalid("registers", 40, registers=many, tables=[], outputs=[])
        self.check_invalid("registers", 40, registers=many, tables=[((42,), 2)], outputs=[])
        self.check_invalid("registers", 0, registers=[("q", 0, 43)] + many[1:], tables=[], outputs=[])

    def test_pins(self):
        for pins in ((4,), (5,), (-1,), (100,), (0, 1, 4), (0, 0, 0, 0, 0, 0, 0)):
            self.check_invalid("tables", 0, tables=[(pins, 0)] + TABLES[1:])
        for pins in ((6,), (7,), (0, -1)):
            self.check_invalid("tables", 2, tables=TABLES[:2] + [(pins, 0)] + TABLES[3:])
        Netlist(INPUTS, REGISTERS, [((3, 0, 3, 1, 2, 2), 0), ((4, 4), 3)], [])

    def test_tables(self):
        for count in range(7):
            pins = (0, 1, 2, 3, 3, 0)[:count]
            greatest = 2 ** 2 ** count - 1
            for table in (0, greatest // 2, greatest):
                self.assertEqual([(pins, table)], Netlist(INPUTS, [("q", 0, 2), ("r", 0, 3)], [(pins, table)], []).tables)
            for table in (-1, greatest + 1):
                self.check_invalid("tables", 0, tables=[(pins, table)] + TABLES[1:])

    def test_number_of_tables(self):
        many = [((0,), 1)] * 4101
        self.assertEqual(4100, len(Netlist(["a"], [], many[:4100], []).tables))
        self.check_invalid("tables", 4100, tables=many)

    def test_outputs(self):
        for name in ("", "Y", "y"):
            self.check_invalid("outputs", 1, outputs=[("y", 7), (name, 0)])
        for signal in (-1, 8):
            self.check_invalid("outputs", 1, outputs=[("y", 7), ("z", signal)])
        many = [(f"o{k}", 0) for k in range(33)]
        self.assertEqual(32, len(Netlist(INPUTS, [], [], many[:32]).outputs))
        self.check_invalid("outputs", 32, outputs=many)
        Netlist(INPUTS, REGISTERS, TABLES, [("a", 0), ("q", 1)])

    def test_which_fault_is_told(self):
        self.check_invalid("inputs", 1, ["a", "a"], [("Q", 0, 0)], [((9,), 0)], [("Y", 0)])
        self.check_invalid("registers", 0, ["a"], [("Q", 0, 0), ("", 0, 0)], [((9,), 0)], [("Y", 0)])
        self.check_invalid("tables", 1, ["a"], [("q", 0, 0)], [((), 0), ((9,), 0), ((), 2)], [("Y", 0)])
        self.check_invalid("outputs", 1, ["a"], [("q", 0, 0)], [], [("y", 0), ("y", 0), ("z", 9)])
        # An earlier entry that is invalid by itself does not make a later one of another part the first fault.
        self.check_invalid("inputs", 0, ["", "a"], [("a", 0, 0)])

    def test_equality(self):
        parts = [INPUTS, REGISTERS, TABLES, OUTPUTS]
        self.assertTrue(NETLIST == Netlist(*parts))
        others = [["a", "c"], [("q", 1, 4), ("r", 1, 2)], [((0, 3), 7)] + TABLES[1:], [("y", 7), ("b", 0)]]
        for place, other in enumerate(others):
            different = Netlist(*(parts[:place] + [other] + parts[place + 1:]))
            self.assertFalse(NETLIST == different)
            self.assertTrue(NETLIST != different)
        self.assertFalse(Netlist([], [], [], []) == Circuit([], [], [], []))
        self.assertFalse(NETLIST == (INPUTS, REGISTERS, TABLES, OUTPUTS))
        self.assertFalse(NETLIST == None)  # noqa: E711

    def test_later_changes_do_not_count(self):
        parts = [list(INPUTS), list(REGISTERS), list(TABLES), list(OUTPUTS)]
        netlist = Netlist(*parts)
        for part in parts:
            part.clear()
        self.assertEqual(NETLIST, netlist)

    def test_values(self):
        self.assertEqual([1, 0, 0, 1, 0, 1, 0, 1], signal_values(NETLIST, [0, 1], [1, 0]))
        self.assertEqual([0, 1, 1, 1, 1, 1, 1, 0], signal_values(NETLIST, [1, 1], [0, 1]))
        # Bit 2 of the table is for the pin 1 alone, also if the pins are not in order.
        self.assertEqual([0, 1, 1, 0], signal_values(Netlist(["a", "b"], [], [((0, 1), 4), ((1, 0), 4)], []), [], [0, 1]))
        self.assertEqual([], signal_values(Netlist([], [], [], []), [], []))

    def test_values_by_definition(self):
        for seed in range(60):
            netlist = random_netlist(seed)
            state = random_course(seed, len(netlist.registers), 1)[0]
            row = random_course(seed + 1, len(netlist.inputs), 1)[0]
            before = plain([netlist, state, row])
            self.assertEqual(slow_values(netlist, state, row), signal_values(netlist, state, row))
            self.assertEqual(before, plain([netlist, state, row]))

    def test_run_example(self):
        netlist = Netlist(["a"], [("q", 1, 2)], [((0, 1), 6)], [("y", 2)])
        self.assertEqual([[1], [0], [1]], run_netlist(netlist, [[0], [1], [1]]))

    def test_registers_change_at_once(self):
        # Three registers in a ring, and two that change places.
        netlist = Netlist([], [("p", 1, 2), ("q", 0, 0), ("r", 0, 1)], [], [("x", 0), ("y", 1), ("z", 2)])
        self.assertEqual([[1, 0, 0], [0, 1, 0], [0, 0, 1], [1, 0, 0]], run_netlist(netlist, [[]] * 4))
        netlist = Netlist([], [("p", 1, 1), ("q", 0, 0)], [], [("x", 0), ("y", 1)])
        self.assertEqual([[1, 0], [0, 1], [1, 0]], run_netlist(netlist, [[]] * 3))

    def test_runs_by_definition(self):
        for seed in range(60):
            netlist = random_netlist(seed)
            course = random_course(seed, len(netlist.inputs), 15)
            before = plain([netlist, course])
            self.assertEqual(slow_run(netlist, course), run_netlist(netlist, course))
            self.assertEqual(before, plain([netlist, course]))

    def test_courses(self):
        netlist = Netlist(["a", "b"], [], [], [("y", 1)])
        self.assertEqual([], run_netlist(netlist, []))
        self.assertEqual([[1]] * 1000, run_netlist(netlist, [[0, 1]] * 1000))
        self.assert_error(InvalidCourse, {"index": 1000}, run_netlist, netlist, [[0, 1]] * 1001)
        self.assert_error(InvalidCourse, {"index": 1000}, run_netlist, netlist, [[0, 1]] * 1000 + [[0]])
        for row in ([], [0], [0, 1, 0], [0, 2], [-1, 0]):
            self.assert_error(InvalidCourse, {"index": 2}, run_netlist, netlist, [[0, 1], [0, 0], row, [7, 7]])

    def test_levels(self):
        self.assertEqual([0, 0, 0, 0, 1, 1, 2, 3], signal_levels(NETLIST))
        self.assertEqual([], signal_levels(Netlist([], [], [], [])))
        for seed in range(60):
            netlist = random_netlist(seed)
            before = plain(netlist)
            levels = [slow_level(netlist, signal) for signal in range(len(signal_levels(netlist)))]
            self.assertEqual(levels, signal_levels(netlist))
            read = [signal for _, _, signal in netlist.registers] + [signal for _, signal in netlist.outputs]
            self.assertEqual(max([levels[signal] for signal in read], default=0), netlist_depth(netlist))
            self.assertEqual(before, plain(netlist))

    def test_depth(self):
        self.assertEqual(3, netlist_depth(NETLIST))
        self.assertEqual(0, netlist_depth(Netlist([], [], [], [])))
        self.assertEqual(0, netlist_depth(Netlist(["a"], [], [((0,), 1)], [])))
        self.assertEqual(0, netlist_depth(Netlist(["a"], [], [((0,), 1)], [("y", 0)])))
        self.assertEqual(1, netlist_depth(Netlist(["a"], [], [((), 1)], [("y", 1)])))
        self.assertEqual(2, netlist_depth(Netlist(["a"], [("q", 0, 3)], [((0,), 1), ((2, 0), 1)], [("y", 2)])))

    def test_deep_netlist(self):
        netlist = Netlist(["a"], [], [((k, 0), 8) for k in range(4100)], [("y", 4100)])
        self.assertEqual(4100, netlist_depth(netlist))
        self.assertEqual([[1], [0]], run_netlist(netlist, [[1], [0]]))


if __name__ == "__main__":
    unittest.main()
