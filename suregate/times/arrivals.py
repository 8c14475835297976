"""Delays of a netlist, and the times at which its signals have their values at the latest."""

from suregate.errors import InvalidDelays, InvalidPeriod
from suregate.mapping.netlist import endpoints

LEAST_GATE = 1
GREATEST_DELAY = 1000
GREATEST_PERIOD = 10000000


def check_delays(netlist, delays):
    """Raises InvalidDelays if these are no delays of the netlist."""
    for index, (gate, wires) in enumerate(delays):
        if index >= len(netlist.tables) or gate < LEAST_GATE or gate > GREATEST_DELAY:
            raise InvalidDelays(index)
        pins, _ = netlist.tables[index]
        if len(wires) != len(pins) or not all([0 <= wire <= GREATEST_DELAY for wire in wires]):
            raise InvalidDelays(index)
    if len(delays) < len(netlist.tables):
        raise InvalidDelays(len(delays))


def check_period(period):
    """Raises InvalidPeriod if the period is out of range."""
    if period < 1 or period > GREATEST_PERIOD:
        raise InvalidPeriod("a period is from 1 to 10000000")


def pin_delays(netlist, delays):
    """Returns for each table the pairs of the signal of a pin, and what it takes from there to the table."""
    return [
        [(pin, gate + wire) for pin, wire in zip(pins, wires)]
        for (pins, _), (gate, wires) in zip(netlist.tables, delays)]


def arrivals(netlist, delays):
    """Returns the arrivals of all signals."""
    check_delays(netlist, delays)
    answers = [0] * netlist.first_table
    for pins in pin_delays(netlist, delays):
        answers.append(max([answers[signal] + delay for signal, delay in pins], default=0))
    return answers


def longest_time(netlist, delays):
    """Returns the greatest arrival of an endpoint."""
    times = arrivals(netlist, delays)
    return max([times[signal] for signal in endpoints(netlist)], default=0)


def least_period(netlist, delays):
    """Returns the least period with which all endpoints have their values in time."""
    return 1 + longest_time(netlist, delays)


def longest_trail(netlist, delays):
    """Returns a longest trail, or [] if there is no endpoint."""
    times = arrivals(netlist, delays)
    ends = endpoints(netlist)
    if not ends:
        return []
    pin_lists = pin_delays(netlist, delays)
    signal = max(ends, key=lambda end: times[end])
    trail = []
    # Back from pin to pin that decides the arrival, as far as there are pins.
    while signal >= netlist.first_table and pin_lists[signal - netlist.first_table]:
        pins = pin_lists[signal - netlist.first_table]
        sums = [times[source] + delay for source, delay in pins]
        place = sums.index(times[signal])
        trail.append((signal, place))
        signal, _ = pins[place]
    trail.append((signal, 0))
    return trail[::-1]


def slacks(netlist, delays, period):
    """Returns the slacks of all signals for a period."""
    times = arrivals(netlist, delays)
    check_period(period)
    deadlines = [period - 1] * netlist.signal_count
    # Whether an endpoint depends on the signal.
    counts = [False] * netlist.signal_count
    for signal in endpoints(netlist):
        counts[signal] = True
    pin_lists = pin_delays(netlist, delays)
    for signal in reversed(range(netlist.first_table, netlist.signal_count)):
        if counts[signal]:
            for source, delay in pin_lists[signal - netlist.first_table]:
                counts[source] = True
                deadlines[source] = min(deadlines[source], deadlines[signal] - delay)
    return [deadline - time for deadline, time in zip(deadlines, times)]
