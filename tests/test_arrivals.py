"""Promises [89] to [92]: delays, arrivals, longest trails and slacks."""

import unittest

from helpers import SuregateTest, plain
from random_netlists import random_delays, random_netlist

from suregate.errors import InvalidDelays, InvalidPeriod
from suregate.mapping.netlist import Netlist
from suregate.times.arrivals import (
    arrivals, check_delays, least_period, longest_time, longest_trail, slacks)

# The signal 0 is an input, 1 a register; the tables are 2 to 6. The table 5 and what it alone hangs on do not count.
NETLIST = Netlist(
    ["a"], [("q", 0, 3)], [((0, 1), 6), ((2, 0, 2), 99), ((), 1), ((3, 4), 8), ((4, 2), 7)], [("y", 6), ("z", 0)])
DELAYS = [(5, (0, 7)), (1, (10, 30, 0)), (1000, ()), (20, (1, 2)), (3, (1000, 4))]
ARRIVALS = [0, 0, 12, 31, 0, 52, 1003]
TRAIL = [(4, 0), (6, 0)]
NO_ENDPOINT = Netlist(["a"], [], [((0,), 1)], [])


def slow_arrival(netlist, delays, signal):
    """Returns the arrival of a signal as [90] tells it."""
    index = signal - len(netlist.inputs) - len(netlist.registers)
    if index < 0 or not netlist.tables[index][0]:
        return 0
    gate, wires = delays[index]
    return gate + max(
        slow_arrival(netlist, delays, pin) + wire for pin, wire in zip(netlist.tables[index][0], wires))


def endpoint_signals(netlist):
    return [told[2] for told in netlist.registers] + [told[1] for told in netlist.outputs]


def on_which_endpoints_depend(netlist):
    """Returns the signals on which an endpoint depends."""
    first = len(netlist.inputs) + len(netlist.registers)
    found = set()
    waiting = endpoint_signals(netlist)
    while waiting:
        signal = waiting.pop()
        if signal not in found:
            found.add(signal)
            if signal >= first:
                waiting += netlist.tables[signal - first][0]
    return found


def slow_deadline(netlist, delays, period, signal):
    """Returns the deadline of a signal as [92] tells it."""
    first = len(netlist.inputs) + len(netlist.registers)
    depend = on_which_endpoints_depend(netlist)
    told = [period - 1]
    for table, (pins, _) in enumerate(netlist.tables):
        gate, wires = delays[table]
        for pin, wire in zip(pins, wires):
            if pin == signal and table + first in depend:
                told.append(slow_deadline(netlist, delays, period, table + first) - gate - wire)
    return min(told)


class ArrivalsTest(SuregateTest):
    def check_error(self, index, delays, netlist=NETLIST):
        for function, more in (
                (check_delays, []), (arrivals, []), (longest_time, []), (least_period, []), (longest_trail, []),
                (slacks, [10]), (slacks, [0]), (slacks, [10 ** 7 + 1])):
            before = plain([netlist, delays])
            self.assert_error(InvalidDelays, {"index": index}, function, netlist, delays, *more)
            self.assertEqual(before, plain([netlist, delays]))

    def with_delay(self, index, entry):
        return DELAYS[:index] + [entry] + DELAYS[index + 1:]

    def test_valid_delays(self):
        self.assertIsNone(check_delays(NETLIST, DELAYS))
        self.assertIsNone(check_delays(Netlist([], [], [], []), []))
        self.assertIsNone(check_delays(NETLIST, self.with_delay(1, (1, (0, 1000, 0)))))
        self.assertIsNone(check_delays(NETLIST, self.with_delay(1, (1000, (1000, 1000, 1000)))))

    def test_gates(self):
        for gate in (0, -1, 1001, 10 ** 6):
            for index in (0, 2, 4):
                self.check_error(index, self.with_delay(index, (gate, DELAYS[index][1])))
        for gate in (1, 1000):
            self.assertIsNone(check_delays(NETLIST, self.with_delay(2, (gate, ()))))

    def test_entries_of_pins(self):
        for wire in (-1, 1001, -1000):
            for place in range(3):
                wires = [1, 2, 3]
                wires[place] = wire
                self.check_error(1, self.with_delay(1, (1, tuple(wires))))
        for wires in ((), (1,), (1, 1), (1, 1, 1, 1)):
            self.check_error(1, self.with_delay(1, (1, wires)))
        self.check_error(2, self.with_delay(2, (1, (0,))))

    def test_missing_and_surplus_entries(self):
        for count in range(5):
            self.check_error(count, DELAYS[:count])
        self.check_error(5, DELAYS + [(1, ())])
        self.check_error(0, [(1, ())], Netlist(["a"], [], [], [("y", 0)]))

    def test_which_entry_is_told(self):
        self.check_error(1, [DELAYS[0], (0, (1, 1, 1)), (0, ())])
        self.check_error(3, DELAYS[:3] + [(1, ())] + DELAYS[4:] + [(0, ())])
        self.check_error(2, DELAYS[:2] + [(1001, ())])

    def test_example(self):
        netlist = Netlist(["a"], [], [((0,), 1), ((0, 1), 8)], [("y", 2)])
        self.assertEqual([0, 3, 10], arrivals(netlist, [(2, (1,)), (3, (0, 4))]))

    def test_arrivals(self):
        self.assertEqual(ARRIVALS, arrivals(NETLIST, DELAYS))
        self.assertEqual([], arrivals(Netlist([], [], [], []), []))
        # A table without pins arrives at 0, whatever its gate is.
        netlist = Netlist([], [], [((), 1), ((0,), 1)], [])
        self.assertEqual([0, 1005], arrivals(netlist, [(1000, ()), (5, (1000,))]))

    def test_by_definition(self):
        for seed in range(80):
            netlist = random_netlist(seed)
            delays = random_delays(seed, netlist)
            before = plain([netlist, delays])
            expected = [slow_arrival(netlist, delays, signal) for signal in range(netlist.signal_count)]
            self.assertEqual(expected, arrivals(netlist, delays))
            longest = max([expected[signal] for signal in endpoint_signals(netlist)], default=0)
            self.assertEqual(longest, longest_time(netlist, delays))
            self.assertEqual(longest + 1, least_period(netlist, delays))
            self.check_trail(netlist, delays, longest)
            for period in (1, longest + 1, longest + 50, 10 ** 7):
                told = slacks(netlist, delays, period)
                self.assertEqual(
                    [slow_deadline(netlist, delays, period, signal) - arrival for signal, arrival in enumerate(expected)],
                    told)
                self.assertEqual(
                    period >= longest + 1, all(told[signal] >= 0 for signal in endpoint_signals(netlist)))
            self.assertEqual(before, plain([netlist, delays]))

    def check_trail(self, netlist, delays, longest):
        """Checks a longest trail by [91]."""
        trail = longest_trail(netlist, delays)
        self.assertIs(list, trail.__class__)
        if not endpoint_signals(netlist):
            self.assertEqual([], trail)
            return
        first = len(netlist.inputs) + len(netlist.registers)
        signal, pin = trail[0]
        self.assertEqual(0, pin)
        self.assertTrue(signal < first or not netlist.tables[signal - first][0])
        length = 0
        for (before, _), (signal, pin) in zip(trail, trail[1:]):
            self.assertEqual(before, netlist.tables[signal - first][0][pin])
            gate, wires = delays[signal - first]
            length += gate + wires[pin]
        self.assertEqual(longest, length)
        self.assertIn(trail[-1][0], endpoint_signals(netlist))

    def test_longest_time(self):
        self.assertEqual((1003, 1004), (longest_time(NETLIST, DELAYS), least_period(NETLIST, DELAYS)))
        self.assertEqual(TRAIL, longest_trail(NETLIST, DELAYS))
        # The table 5 is no endpoint, so it does not count.
        netlist = Netlist(NETLIST.inputs, NETLIST.registers, NETLIST.tables, [("z", 0)])
        self.assertEqual((31, 32), (longest_time(netlist, DELAYS), least_period(netlist, DELAYS)))
        self.assertEqual([(0, 0), (3, 1)], longest_trail(netlist, DELAYS))

    def test_without_endpoints(self):
        delays = [(7, (5,))]
        self.assertEqual([0, 12], arrivals(NO_ENDPOINT, delays))
        self.assertEqual((0, 1), (longest_time(NO_ENDPOINT, delays), least_period(NO_ENDPOINT, delays)))
        self.assertEqual([], longest_trail(NO_ENDPOINT, delays))
        self.assertEqual([4, -8], slacks(NO_ENDPOINT, delays, 5))
        empty = Netlist([], [], [], [])
        self.assertEqual((0, 1, [], []), (
            longest_time(empty, []), least_period(empty, []), longest_trail(empty, []), slacks(empty, [], 1)))

    def test_endpoints_without_delay(self):
        for netlist, delays in (
                (Netlist(["a"], [], [], [("y", 0)]), []), (Netlist([], [("q", 0, 0)], [], []), []),
                (Netlist([], [], [((), 1)], [("y", 0)]), [(9, ())])):
            self.assertEqual([(0, 0)], longest_trail(netlist, delays))
            self.assertEqual((0, 1), (longest_time(netlist, delays), least_period(netlist, delays)))

    def test_slacks(self):
        # The table 5 has the deadline period - 1, but it does not count for the table 3.
        told = slacks(NETLIST, DELAYS, 1004)
        self.assertEqual([0, 1003 - 52, 0], told[4:])
        self.assertEqual(1003 - 31, told[0])
        self.assertEqual(1003 - 31, told[3])
        self.assertEqual(1003 - 11 - 12, told[2])
        self.assertEqual(1003 - 11 - 12, told[1])
        self.assertEqual([slack - 3 for slack in told], slacks(NETLIST, DELAYS, 1001))

    def test_periods(self):
        for period in (0, -1, 10 ** 7 + 1, 10 ** 9):
            before = plain([NETLIST, DELAYS])
            self.assert_error(InvalidPeriod, {}, slacks, NETLIST, DELAYS, period)
            self.assertEqual(before, plain([NETLIST, DELAYS]))
        self.assertEqual(-1003, min(slacks(NETLIST, DELAYS, 1)))
        self.assertEqual(10 ** 7 - 1004, min(slacks(NETLIST, DELAYS, 10 ** 7)))

    def test_deep_netlist(self):
        netlist = Netlist(["a"], [], [((k, 0), 8) for k in range(4100)], [("y", 4100)])
        delays = [(1000, (1000, 0))] * 4100
        self.assertEqual(8200000, longest_time(netlist, delays))
        trail = longest_trail(netlist, delays)
        self.assertEqual([(k, 0) for k in range(4101)], trail)
        self.assertEqual(0, min(slacks(netlist, delays, 8200001)))


if __name__ == "__main__":
    unittest.main()
