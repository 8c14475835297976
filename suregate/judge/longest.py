"""The judge of certificates of the longest time."""

from suregate.mapping.netlist import endpoints
from suregate.times.arrivals import pin_delays


def fault_of_longest(netlist, delays, entries, trail):
    """Returns None if the entries and the trail are a certificate of the longest time, or else the first fault."""
    pin_lists = pin_delays(netlist, delays)
    index = _first_wrong_entry(netlist, pin_lists, entries)
    if index is not None:
        return "entries", index
    length = 0
    before = None
    for index, (signal, pin) in enumerate(trail):
        step = _step_length(netlist, pin_lists, before, signal, pin)
        if step is None:
            return "trail", index
        length += step
        before = signal
    ends = endpoints(netlist)
    is_longest = before in ends and length == max([entries[signal] for signal in ends])
    # Only without endpoints there is nothing that a trail could lead to.
    if is_longest or (not trail and not ends):
        return None
    return "trail", len(trail)


def _first_wrong_entry(netlist, pin_lists, entries):
    """Returns the first index at which an entry is missing, surplus, negative or too small, or None."""
    for index, entry in enumerate(entries):
        if index >= netlist.signal_count or entry < 0:
            return index
        if index >= netlist.first_table:
            pins = pin_lists[index - netlist.first_table]
            if not all([entries[signal] + delay <= entry for signal, delay in pins]):
                return index
    return len(entries) if len(entries) < netlist.signal_count else None


def _step_length(netlist, pin_lists, before, signal, pin):
    """Returns by how much an entry makes a trail longer that ends at a signal so far, or None if it cannot follow.

    The signal before the first entry is None.
    """
    if signal < 0 or signal >= netlist.signal_count:
        return None
    pins = []
    if signal >= netlist.first_table:
        pins = pin_lists[signal - netlist.first_table]
    if before is None:
        return 0 if not pins and pin == 0 else None
    if pin < 0 or pin >= len(pins):
        return None
    source, delay = pins[pin]
    return delay if source == before else None
