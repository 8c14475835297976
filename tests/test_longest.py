"""Promise [91]: the judge of certificates of the longest time."""

import random
import unittest

from helpers import SuregateTest, plain
from random_netlists import random_delays, random_netlist

from suregate.judge.longest import fault_of_longest
from suregate.mapping.netlist import Netlist
from suregate.times.arrivals import arrivals, longest_trail

# The signal 0 is an input, 1 a register; the tables are 2 to 5, of which 4 has no pins.
NETLIST = Netlist(
    ["a"], [("q", 0, 3)], [((0, 1), 6), ((2, 0, 2), 99), ((), 1), ((3, 4, 3), 99)], [("y", 5), ("z", 2)])
DELAYS = [(5, (0, 7)), (1, (10, 30, 0)), (9, ()), (20, (1, 2, 4))]
ENTRIES = [0, 0, 12, 31, 0, 55]
TRAIL = [(0, 0), (3, 1), (5, 2)]
NO_ENDPOINT = Netlist(["a"], [], [((0,), 1)], [])


def slow_fault(netlist, delays, entries, trail):
    """Returns the fault, as the document tells it."""
    first = len(netlist.inputs) + len(netlist.registers)
    count = first + len(netlist.tables)
    for index in range(max(len(entries), count)):
        if index >= min(len(entries), count) or entries[index] < 0:
            return "entries", index
        if index >= first:
            gate, wires = delays[index - first]
            if any(entries[index] < entries[pin] + gate + wire for pin, wire in zip(netlist.tables[index - first][0], wires)):
                return "entries", index
    length = 0
    for index, (signal, pin) in enumerate(trail):
        if signal not in range(count):
            return "trail", index
        pins = netlist.tables[signal - first][0] if signal >= first else ()
        if index == 0:
            if pins or pin != 0:
                return "trail", 0
            continue
        if pin not in range(len(pins)) or pins[pin] != trail[index - 1][0]:
            return "trail", index
        length += delays[signal - first][0] + delays[signal - first][1][pin]
    ends = [told[2] for told in netlist.registers] + [told[1] for told in netlist.outputs]
    if not ends:
        return ("trail", len(trail)) if trail else None
    if not trail or trail[-1][0] not in ends or length != max(entries[signal] for signal in ends):
        return "trail", len(trail)
    return None


class LongestTest(SuregateTest):
    def check(self, expected, entries=ENTRIES, trail=TRAIL, netlist=NETLIST, delays=DELAYS):
        before = plain([netlist, delays, entries, trail])
        self.assertEqual(expected, fault_of_longest(netlist, delays, entries, trail))
        self.assertEqual(before, plain([netlist, delays, entries, trail]))
        self.assertEqual(expected, slow_fault(netlist, delays, entries, trail))

    def with_entry(self, index, entry):
        return ENTRIES[:index] + [entry] + ENTRIES[index + 1:]

    def test_certificate(self):
        self.assertEqual(ENTRIES, arrivals(NETLIST, DELAYS))
        self.check(None)

    def test_missing_and_surplus_entries(self):
        for count in range(6):
            self.check(("entries", count), ENTRIES[:count])
        self.check(("entries", 6), ENTRIES + [0])
        self.check(("entries", 6), ENTRIES + [1000, -1])
        self.check(("entries", 0), [0], [], Netlist([], [], [], []), [])

    def test_negative_entries(self):
        for index in range(6):
            for entry in (-1, -100, -2 ** 70):
                self.check(("entries", index), self.with_entry(index, entry))

    def test_entries_that_are_too_small(self):
        self.check(("entries", 2), self.with_entry(2, 11))
        self.check(("entries", 3), self.with_entry(3, 30))
        self.check(("entries", 5), self.with_entry(5, 54))
        # Too small for one of the pins only.
        self.check(("entries", 2), [0, 1] + ENTRIES[2:])
        self.check(("entries", 3), ENTRIES[:2] + [21] + ENTRIES[3:])
        self.check(("entries", 5), ENTRIES[:4] + [34, 55])

    def test_entries_that_are_greater(self):
        # Greater entries are no fault by themselves, but the trail must be as long as that of an endpoint.
        self.check(None, [0, 0, 20, 31, 33, 55])
        self.check(("trail", 3), self.with_entry(5, 56))
        self.check(("trail", 3), [0, 0, 12, 31, 2 ** 70, 2 ** 70 + 22])
        self.check(("trail", 3), [0, 0, 12, 31, 0, 2 ** 80])

    def test_entries_before_the_trail(self):
        self.check(("entries", 5), ENTRIES[:5], [(9, 9)])
        self.check(("entries", 1), self.with_entry(1, -1), [])

    def test_first_entry_of_the_trail(self):
        for wrong in ((-1, 0), (6, 0), (100, 0), (-6, 0), (2 ** 70, 0), (0, 1), (0, -1), (1, 1), (4, 1), (2, 0), (5, 2)):
            self.check(("trail", 0), trail=[wrong] + TRAIL[1:])
            self.check(("trail", 0), trail=[wrong])
        # Other starts are right by themselves.
        self.check(("trail", 1), trail=[(1, 0)] + TRAIL[1:])
        self.check(("trail", 2), trail=[(4, 0), (5, 1)])
        self.check(("trail", 3), trail=[(1, 0), (2, 1), (3, 0)])

    def test_further_entries_of_the_trail(self):
        for wrong in ((3, 0), (3, 2), (3, 3), (3, -2), (3, -1), (2, 1), (0, 0), (1, 0), (4, 0), (-3, 1), (6, 1), (100, 0), (2 ** 70, 0)):
            self.check(("trail", 1), trail=[TRAIL[0], wrong, TRAIL[2]])
        for wrong in ((5, 1), (5, -1), (5, 3), (3, 1), (2, 0), (6, 0), (-1, 2)):
            self.check(("trail", 2), trail=TRAIL[:2] + [wrong])
        self.check(("trail", 3), trail=TRAIL + [(5, 0)])

    def test_end_of_the_trail(self):
        # The table 4 is no endpoint; 3 and 2 are, but these trails are too short, and so is one over the other pin.
        self.check(("trail", 1), trail=[(4, 0)])
        self.check(("trail", 1), trail=[(0, 0)])
        self.check(("trail", 2), trail=TRAIL[:2])
        self.check(("trail", 2), trail=[(0, 0), (2, 0)])
        self.check(("trail", 3), trail=[(0, 0), (3, 1), (5, 0)])
        self.check(("trail", 0), trail=[])

    def test_last_signal_that_is_no_endpoint(self):
        # The trail has the right length, but goes on to a table that is no endpoint.
        netlist = Netlist(["a"], [], [((0,), 1), ((0,), 2)], [("y", 1)])
        delays = [(4, (3,)), (5, (2,))]
        self.check(None, [0, 7, 7], [(0, 0), (1, 0)], netlist, delays)
        self.check(("trail", 2), [0, 7, 7], [(0, 0), (2, 0)], netlist, delays)

    def test_trails_of_one_entry(self):
        netlist = Netlist(["a"], [("q", 0, 1)], [((), 1)], [("y", 2), ("z", 0)])
        for signal in range(3):
            self.check(None, [0, 0, 0], [(signal, 0)], netlist, [(3, ())])
        self.check(("trail", 1), [0, 0, 2], [(2, 0)], netlist, [(3, ())])

    def test_without_endpoints(self):
        delays = [(7, (5,))]
        self.check(None, [0, 12], [], NO_ENDPOINT, delays)
        self.check(("trail", 1), [0, 12], [(0, 0)], NO_ENDPOINT, delays)
        self.check(("trail", 2), [0, 12], [(0, 0), (1, 0)], NO_ENDPOINT, delays)
        self.check(("trail", 0), [0, 12], [(1, 0)], NO_ENDPOINT, delays)
        self.check(None, [], [], Netlist([], [], [], []), [])

    def test_certificates_and_changed_ones(self):
        chance = random.Random(1)
        told = {}
        for seed in range(120):
            netlist = random_netlist(seed)
            delays = random_delays(seed, netlist)
            entries, trail = arrivals(netlist, delays), longest_trail(netlist, delays)
            self.check(None, entries, trail, netlist, delays)
            for _ in range(6):
                wrong_entries, wrong_trail = list(entries), list(trail)
                if chance.random() < 0.4 and entries:
                    wrong_entries[chance.randrange(len(entries))] += chance.choice((-1, 1, 50))
                elif trail:
                    place = chance.randrange(len(trail))
                    signal, pin = trail[place]
                    wrong_trail[place] = (signal + chance.choice((0, 1, -1)), pin + chance.choice((0, 1, -1)))
                answer = fault_of_longest(netlist, delays, wrong_entries, wrong_trail)
                self.assertEqual(slow_fault(netlist, delays, wrong_entries, wrong_trail), answer)
                part = answer[0] if answer else None
                told[part] = told.get(part, 0) + 1
        self.assertGreater(min(told.values()), 30)


if __name__ == "__main__":
    unittest.main()
