"""Netlists whose tables respond late."""

from heapq import heappop, heappush

from suregate.errors import InvalidCourse
from suregate.mapping.netlist import signal_values, table_value
from suregate.runs.plain import check_course, is_row
from suregate.times.arrivals import check_delays, check_period, pin_delays


class TimedMachine:
    """A timed run of a netlist; its method `cycle` changes it."""

    def __init__(self, netlist, delays, period, choices):
        check_delays(netlist, delays)
        check_period(period)
        self.changes = []
        self._period = period
        self._choices = list(choices)
        self._used_choices = 0
        self._cycle_count = 0
        self._input_count = len(netlist.inputs)
        self._first_table = netlist.first_table
        self._tables = list(netlist.tables)
        self._next_signals = [signal for _, _, signal in netlist.registers]
        self._output_signals = [signal for _, signal in netlist.outputs]
        # For each signal the tables with a pin of this signal, in ascending order, each with its bound.
        self._readers = _readers_of(netlist, delays)
        self._state = [start for _, start, _ in netlist.registers]
        self._values = signal_values(netlist, self._state, [0] * self._input_count)
        # The tables that are waiting, by the times until which they do, and the same as a dict.
        self._queue = []
        self._waiting = {}

    def signals(self):
        """Returns the values of all signals."""
        return list(self._values)

    def cycle(self, row):
        """Performs a cycle and returns the outputs at its end; changes the object."""
        if not is_row(self._input_count, row):
            raise InvalidCourse(self._cycle_count)
        self.changes = []
        self._begin(row)
        while self._queue and self._queue[0][0] < self._period:
            time, signal = heappop(self._queue)
            del self._waiting[signal]
            self._wake(time, signal)
        # All times fall by the same, so the queue stays a heap.
        self._queue = [(time - self._period, signal) for time, signal in self._queue]
        self._state = [self._values[signal] for signal in self._next_signals]
        self._cycle_count += 1
        return [self._values[signal] for signal in self._output_signals]

    def _begin(self, row):
        """Gives the inputs and the registers their new values, and stirs what reads them."""
        for signal, value in enumerate(list(row) + self._state):
            if self._values[signal] != value:
                self._values[signal] = value
                self.changes.append((0, signal, value))
        for _, signal, _ in list(self.changes):
            self._stir(0, signal)

    def _wake(self, time, signal):
        """Gives a table the value that it has now, and stirs what reads it if the value changes."""
        pins, table = self._tables[signal - self._first_table]
        value = table_value(self._values, pins, table)
        if self._values[signal] != value:
            self._values[signal] = value
            self.changes.append((time, signal, value))
            self._stir(time, signal)

    def _stir(self, time, signal):
        """Lets the tables that read a signal wait, unless they do already."""
        for reader, bound in list(self._readers[signal]):
            if reader not in self._waiting:
                self._waiting[reader] = True
                heappush(self._queue, (time + self._next_delay(bound), reader))

    def _next_delay(self, bound):
        """Returns the delay that the next choice sets, or the bound if no choice is left."""
        if self._used_choices == len(self._choices):
            return bound
        choice = self._choices[self._used_choices]
        self._used_choices += 1
        return 1 + choice % bound


def timed_run(netlist, delays, period, course, choices):
    """Returns the outputs at the end of each cycle of the course."""
    machine = TimedMachine(netlist, delays, period, choices)
    check_course(len(netlist.inputs), course)
    return [machine.cycle(row) for row in course]


def _readers_of(netlist, delays):
    """Returns for each signal the tables that read it, each with the greatest delay over one of the pins."""
    readers = [[] for _ in range(netlist.signal_count)]
    for reader, pins in enumerate(pin_delays(netlist, delays), start=netlist.first_table):
        bounds = {}
        for signal, delay in pins:
            bounds[signal] = max(delay, bounds.get(signal, 0))
        for signal, bound in bounds.items():
            readers[signal].append((reader, bound))
    return readers
