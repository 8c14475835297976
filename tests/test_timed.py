"""Promises [93] and [94]: netlists that respond late."""

import random
import unittest

from helpers import SuregateTest, plain, random_course
from random_netlists import random_delays, random_netlist
from test_arrivals import on_which_endpoints_depend

from suregate.errors import InvalidCourse, InvalidDelays, InvalidPeriod
from suregate.mapping.netlist import Netlist, run_netlist, signal_values
from suregate.times.arrivals import arrivals, least_period
from suregate.times.timed import TimedMachine, timed_run


class SlowMachine:
    """A timed run, sentence by sentence as [93] tells it."""

    def __init__(self, netlist, delays, period, choices):
        self.netlist, self.delays, self.period = netlist, delays, period
        self.choices = list(choices)
        self.first = len(netlist.inputs) + len(netlist.registers)
        starts = [start for _, start, _ in netlist.registers]
        self.values = signal_values(netlist, starts, [0] * len(netlist.inputs))
        self.waiting = {}
        self.nexts = None
        self.changes = []

    def stir(self, signal, time):
        for table, (pins, _) in enumerate(self.netlist.tables):
            if signal in pins and table + self.first not in self.waiting:
                gate, wires = self.delays[table]
                bound = gate + max(wire for pin, wire in zip(pins, wires) if pin == signal)
                delay = 1 + self.choices.pop(0) % bound if self.choices else bound
                self.waiting[table + self.first] = time + delay

    def cycle(self, row):
        self.changes = []
        news = list(row) + (self.nexts if self.nexts is not None else self.values[len(row):self.first])
        for signal, value in enumerate(news):
            if self.values[signal] != value:
                self.changes.append((0, signal, value))
                self.values[signal] = value
        for _, signal, _ in list(self.changes):
            self.stir(signal, 0)
        while True:
            ready = sorted((time, signal) for signal, time in self.waiting.items() if time < self.period)
            if not ready:
                break
            time, signal = ready[0]
            del self.waiting[signal]
            pins, table = self.netlist.tables[signal - self.first]
            value = table >> sum(self.values[pin] << leaf for leaf, pin in enumerate(pins)) & 1
            if value != self.values[signal]:
                self.values[signal] = value
                self.changes.append((time, signal, value))
                self.stir(signal, time)
        self.nexts = [self.values[signal] for _, _, signal in self.netlist.registers]
        self.waiting = {signal: time - self.period for signal, time in self.waiting.items()}
        return [self.values[signal] for _, signal in self.netlist.outputs]


# One table that takes its input's value late.
LATE = Netlist(["a"], [], [((0,), 2)], [("y", 1)])


class TimedTest(SuregateTest):
    def test_example(self):
        netlist = Netlist(["a"], [], [((0,), 1), ((0, 1), 8)], [("y", 2)])
        self.assertEqual([[0], [0]], timed_run(netlist, [(2, (1,)), (3, (0, 4))], 11, [[1], [0]], []))

    def test_before_the_first_cycle(self):
        netlist = Netlist(["a"], [("q", 1, 2)], [((0, 1), 6), ((), 1), ((2,), 1)], [("y", 2)])
        machine = TimedMachine(netlist, [(2, (1, 1)), (3, ()), (1, (5,))], 1, [4, 5])
        self.assertEqual([0, 1, 1, 1, 0], machine.signals())
        self.assertEqual([], machine.changes)

    def test_by_definition(self):
        chance = random.Random(6)
        different = late = 0
        for seed in range(150):
            netlist = random_netlist(seed)
            delays = random_delays(seed, netlist)
            period = chance.choice((1, 2, 3, 5, 10, 30, least_period(netlist, delays)))
            choices = [chance.randrange(40) for _ in range(chance.choice((0, 3, 20, 500)))]
            course = random_course(seed, len(netlist.inputs), 15)
            before = plain([netlist, delays, choices, course])
            machine = TimedMachine(netlist, delays, period, choices)
            slow = SlowMachine(netlist, delays, period, choices)
            expected = []
            for row in course:
                expected.append(slow.cycle(row))
                self.assertEqual(expected[-1], machine.cycle(row))
                self.assertEqual(slow.changes, machine.changes)
                self.assertEqual(slow.values, machine.signals())
                late += any(time > 0 for time in slow.waiting.values())
            self.assertEqual(expected, timed_run(netlist, delays, period, course, choices))
            self.assertEqual(before, plain([netlist, delays, choices, course]))
            different += expected != run_netlist(netlist, course)
        self.assertGreater(min(different, late), 20)

    def test_least_period_shows_the_run(self):
        chance = random.Random(8)
        for seed in range(80):
            netlist = random_netlist(seed)
            delays = random_delays(seed, netlist, 40)
            course = random_course(seed, len(netlist.inputs), 12)
            period = least_period(netlist, delays) + chance.choice((0, 0, 1, 100))
            times = arrivals(netlist, delays)
            depend = on_which_endpoints_depend(netlist)
            for many in (0, 30, 2000):
                choices = [chance.randrange(1000) for _ in range(many)]
                machine = TimedMachine(netlist, delays, period, choices)
                self.assertEqual(run_netlist(netlist, course), timed_run(netlist, delays, period, course, choices))
                for row in course:
                    machine.cycle(row)
                    for time, signal, _ in machine.changes:
                        self.assertTrue(signal not in depend or time <= times[signal])

    def test_table_that_waits_over_several_cycles(self):
        machine = TimedMachine(LATE, [(20, (5,))], 10, [])
        self.assertEqual([0], machine.cycle([1]))
        self.assertEqual([(0, 0, 1)], machine.changes)
        # It is stirred again while it waits: nothing changes, and it wakes at 25 all the same, with the value of then.
        self.assertEqual([0], machine.cycle([0]))
        self.assertEqual([(0, 0, 0)], machine.changes)
        self.assertEqual([1], machine.cycle([1]))
        self.assertEqual([(0, 0, 1), (5, 1, 1)], machine.changes)
        self.assertEqual([1, 1], machine.signals())
        # A table that wakes without another value does not change.
        machine.cycle([0])
        machine.cycle([1])
        self.assertEqual([1], machine.cycle([1]))
        self.assertEqual([], machine.changes)

    def test_wakes_at_the_very_end_and_at_the_beginning(self):
        # Until 9 with a period of 10: it wakes in the first cycle; until 10: at time 0 of the next one.
        machine = TimedMachine(LATE, [(4, (5,))], 10, [])
        self.assertEqual([1], machine.cycle([1]))
        self.assertEqual([(0, 0, 1), (9, 1, 1)], machine.changes)
        machine = TimedMachine(LATE, [(5, (5,))], 10, [])
        self.assertEqual([0], machine.cycle([1]))
        self.assertEqual([1], machine.cycle([1]))
        self.assertEqual([(0, 1, 1)], machine.changes)
        # What changes at the beginning comes ahead of what wakes at time 0.
        machine = TimedMachine(LATE, [(5, (5,))], 10, [])
        machine.cycle([1])
        self.assertEqual([0], machine.cycle([0]))
        self.assertEqual([(0, 0, 0)], machine.changes)

    def test_choices(self):
        # The bound is 9; a choice of 8 is as long as the bound, and one of 9 as short as possible.
        for choice, time in ((0, 1), (1, 2), (8, 9), (9, 1), (17, 9), (10 ** 30, 10 ** 30 % 9 + 1)):
            machine = TimedMachine(LATE, [(4, (5,))], 100, [choice])
            machine.cycle([1])
            self.assertEqual([(0, 0, 1), (time, 1, 1)], machine.changes)
            # The choices are used up.
            machine.cycle([0])
            self.assertEqual([(0, 0, 0), (9, 1, 0)], machine.changes)

    def test_no_choice_is_used_for_a_table_that_waits(self):
        # Two inputs change at once; the table waits for the first one, and the second choice is left for later.
        netlist = Netlist(["a", "b"], [], [((1, 0), 6)], [("y", 2)])
        machine = TimedMachine(netlist, [(4, (1, 5))], 100, [2, 6])
        machine.cycle([1, 1])
        self.assertEqual([(0, 0, 1), (0, 1, 1)], machine.changes)
        machine.cycle([1, 0])
        self.assertEqual([(0, 1, 0), (6 % 5 + 1, 2, 1)], machine.changes)

    def test_order_in_which_choices_are_used(self):
        # The input stirs the tables 1 to 3 in ascending order.
        netlist = Netlist(["a"], [], [((0,), 2), ((0,), 1), ((0, 1), 8)], [])
        machine = TimedMachine(netlist, [(9, (0,)), (9, (0,)), (9, (0, 0))], 50, [7, 1, 8, 2])
        machine.cycle([1])
        # The table 2 wakes at 2, 1 at 8, and 3 at 9 (already waiting when 1 changes).
        self.assertEqual([(0, 0, 1), (2, 2, 0), (8, 1, 1), (9, 3, 1)], machine.changes)
        machine.cycle([0])
        self.assertEqual((3, 1, 0), machine.changes[1])

    def test_tables_that_wake_at_one_time(self):
        # All wake at 3, the smallest signal first; 2 has seen the new value of 1 then, but 1 not that of 2.
        netlist = Netlist(["a"], [], [((0,), 2), ((0, 1), 6), ((0, 2), 6)], [])
        machine = TimedMachine(netlist, [(3, (0,)), (3, (0, 0)), (3, (0, 0))], 50, [])
        machine.cycle([1])
        self.assertEqual([(0, 0, 1), (3, 1, 1), (3, 3, 1)], machine.changes[:3])
        # The table 1 stirred 2, which was still waiting until 3 then; later only 3 is stirred, by nothing.
        self.assertEqual(3, len(machine.changes))

    def test_pin_that_occurs_twice(self):
        # The greatest entry of the pins that take the signal counts.
        netlist = Netlist(["a", "b"], [], [((0, 1, 0), 0b10100101)], [])
        for wires, time in (((2, 50, 7), 10), ((7, 50, 2), 10), ((7, 50, 7), 10), ((0, 50, 0), 3)):
            machine = TimedMachine(netlist, [(3, wires)], 100, [])
            machine.cycle([1, 0])
            self.assertEqual([(0, 0, 1)], machine.changes[:1])
            slow = SlowMachine(netlist, [(3, wires)], 100, [])
            slow.cycle([1, 0])
            self.assertEqual(slow.changes, machine.changes)
        netlist = Netlist(["a", "b"], [], [((0, 1, 0), 0b00100000)], [("y", 2)])
        for wires, time in (((2, 50, 7), 10), ((7, 50, 2), 10), ((7, 60, 7), 10), ((0, 50, 0), 3)):
            machine = TimedMachine(netlist, [(3, wires)], 100, [])
            machine.cycle([1, 0])
            self.assertEqual([(0, 0, 1), (time, 2, 1)], machine.changes)

    def test_registers(self):
        # Two registers that change at the beginning of a cycle, before anything else, with the inputs ahead of them.
        netlist = Netlist(["a"], [("q", 0, 0), ("r", 1, 1)], [((1, 2), 6)], [("y", 3)])
        machine = TimedMachine(netlist, [(1, (0, 3))], 10, [])
        self.assertEqual([1], machine.cycle([1]))
        self.assertEqual([(0, 0, 1)], machine.changes)
        # r takes the value that q had at the end of the cycle before, not the new one.
        self.assertEqual([1], machine.cycle([0]))
        self.assertEqual([(0, 0, 0), (0, 1, 1), (0, 2, 0)], machine.changes)
        self.assertEqual([1], machine.cycle([0]))
        self.assertEqual([(0, 1, 0), (0, 2, 1)], machine.changes)
        self.assertEqual([0], machine.cycle([0]))
        self.assertEqual([(0, 2, 0), (4, 3, 0)], machine.changes)

    def test_short_period_can_differ(self):
        self.assertEqual([[0], [0], [0]], timed_run(LATE, [(1, (1,))], 2, [[1], [0], [1]], []))
        self.assertEqual([[1], [0], [1]], run_netlist(LATE, [[1], [0], [1]]))

    def test_wrong_rows(self):
        netlist = Netlist(["a", "b"], [], [((0, 1), 8)], [("y", 2)])
        machine = TimedMachine(netlist, [(3, (1, 1))], 2, [5, 6, 7])
        other = TimedMachine(netlist, [(3, (1, 1))], 2, [5, 6, 7])
        for count, row in enumerate(([1, 1], [0, 1], [1, 1], [1, 0], [0, 0])):
            for wrong in ([], [1], [1, 0, 1], [0, 2], [-1, 0]):
                before = plain(machine)
                self.assert_error(InvalidCourse, {"index": count}, machine.cycle, wrong)
                self.assertEqual(before, plain(machine))
            self.assertEqual(other.cycle(row), machine.cycle(row))
            self.assertEqual((other.changes, other.signals()), (machine.changes, machine.signals()))

    def test_no_greatest_number_of_cycles(self):
        machine = TimedMachine(LATE, [(1, (0,))], 2, [])
        for count in range(1200):
            self.assertEqual([count % 2], machine.cycle([count % 2]))
        self.assert_error(InvalidCourse, {"index": 1200}, machine.cycle, [2])

    def test_courses(self):
        delays = [(1, (0,))]
        self.assertEqual([], timed_run(LATE, delays, 2, [], []))
        self.assertEqual([[1]] * 1000, timed_run(LATE, delays, 2, [[1]] * 1000, [0] * 5))
        self.assert_error(InvalidCourse, {"index": 1000}, timed_run, LATE, delays, 2, [[1]] * 1001, [])
        self.assert_error(InvalidCourse, {"index": 1}, timed_run, LATE, delays, 2, [[1], [2], [3]], [])
        self.assert_error(InvalidCourse, {"index": 0}, timed_run, LATE, delays, 2, [[]], [])

    def test_order_of_errors(self):
        for delays, index in (([], 0), ([(0, (1,))], 0), ([(1, (1,)), (1, ())], 1)):
            self.assert_error(InvalidDelays, {"index": index}, TimedMachine, LATE, delays, 0, [])
            self.assert_error(InvalidDelays, {"index": index}, timed_run, LATE, delays, 0, [[2]], [])
        for period in (0, -1, 10 ** 7 + 1):
            self.assert_error(InvalidPeriod, {}, TimedMachine, LATE, [(1, (1,))], period, [])
            self.assert_error(InvalidPeriod, {}, timed_run, LATE, [(1, (1,))], period, [[2]], [])
        self.assertEqual([[1]], timed_run(LATE, [(1, (1,))], 10 ** 7, [[1]], []))
        self.assertEqual([[0]], timed_run(LATE, [(1, (1,))], 1, [[1]], []))

    def test_later_changes_have_no_effect(self):
        netlist = Netlist(["a"], [("q", 0, 2)], [((0, 1), 6), ((2,), 1)], [("y", 3)])
        delays, choices = [(3, (1, 2)), (2, (0,))], [4, 1, 2, 3, 0, 9]
        machine = TimedMachine(netlist, delays, 4, choices)
        expected = [machine.cycle(row) for row in ([1], [0], [1], [1])]
        copy = Netlist(netlist.inputs, netlist.registers, netlist.tables, netlist.outputs)
        machine = TimedMachine(copy, delays, 4, choices)
        delays.clear()
        choices.clear()
        copy.tables.clear()
        copy.registers.clear()
        copy.outputs.clear()
        copy.inputs.clear()
        self.assertEqual(expected, [machine.cycle(row) for row in ([1], [0], [1], [1])])

    def test_returned_lists_are_new(self):
        machine = TimedMachine(LATE, [(1, (0,))], 2, [])
        told = machine.cycle([1])
        told.append(5)
        machine.signals().clear()
        kept = machine.changes
        machine.cycle([0])
        self.assertEqual([(0, 0, 1), (1, 1, 1)], kept)
        self.assertEqual([0, 0], machine.signals())


if __name__ == "__main__":
    unittest.main()
