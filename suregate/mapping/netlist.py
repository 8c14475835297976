"""Netlists, which compute with tables instead of ands; checked when they are made."""

from suregate.errors import InvalidNetlist
from suregate.graph.circuit import tell_new_names
from suregate.runs.plain import check_course
from suregate.tables.tables import full_table

GREATEST_COUNTS = {"inputs": 16, "registers": 40, "tables": 4100, "outputs": 32}
MOST_PINS = 6


class Netlist:
    """A clocked netlist: its inputs, registers, tables and outputs."""

    def __init__(self, inputs, registers, tables, outputs):
        self.inputs = list(inputs)
        self.registers = list(registers)
        self.tables = list(tables)
        self.outputs = list(outputs)
        _check_netlist(self)

    @property
    def first_table(self):
        """The signal of the first table, or where it would be."""
        return len(self.inputs) + len(self.registers)

    @property
    def signal_count(self):
        """The number of all signals."""
        return len(self.inputs) + len(self.registers) + len(self.tables)

    def __eq__(self, other):
        return (isinstance(other, Netlist) and self.inputs == other.inputs and self.registers == other.registers
                and self.tables == other.tables and self.outputs == other.outputs)


def signal_values(netlist, state, row):
    """Returns the values of all signals in a state under a row of inputs."""
    values = [*row, *state]
    for pins, table in netlist.tables:
        values.append(table_value(values, pins, table))
    return values


def table_value(values, pins, table):
    """Returns the value of a table, given those of the signals of its pins."""
    point = 0
    for pin in reversed(pins):
        point = point << 1 | values[pin]
    return table >> point & 1


def run_netlist(netlist, course):
    """Returns the outputs of all cycles of the course."""
    check_course(len(netlist.inputs), course)
    state = [start for _, start, _ in netlist.registers]
    answers = []
    for row in course:
        values = signal_values(netlist, state, row)
        answers.append([values[signal] for _, signal in netlist.outputs])
        state = [values[signal] for _, _, signal in netlist.registers]
    return answers


def signal_levels(netlist):
    """Returns the levels of all signals."""
    levels = [0] * netlist.first_table
    for pins, _ in netlist.tables:
        levels.append(1 + max([levels[pin] for pin in pins], default=0))
    return levels


def netlist_depth(netlist):
    """Returns the greatest level of an endpoint."""
    levels = signal_levels(netlist)
    return max([levels[signal] for signal in endpoints(netlist)], default=0)


def endpoints(netlist):
    """Returns the next signals and the signals of the outputs, in order."""
    return [signal for _, _, signal in netlist.registers] + [signal for _, signal in netlist.outputs]


def _check_netlist(netlist):
    """Raises InvalidNetlist for the first entry of the netlist that is invalid."""
    input_count = len(netlist.inputs)
    end = netlist.signal_count
    new_names = tell_new_names(netlist.inputs + [name for name, _, _ in netlist.registers])
    new_outputs = tell_new_names([name for name, _ in netlist.outputs])
    _check_part("inputs", new_names[:input_count])
    _check_part("registers", [
        new and start in (0, 1) and 0 <= signal < end
        for new, (_, start, signal) in zip(new_names[input_count:], netlist.registers)])
    _check_part("tables", [
        _is_table(signal, pins, table)
        for signal, (pins, table) in enumerate(netlist.tables, start=netlist.first_table)])
    _check_part("outputs", [
        new and 0 <= signal < end for new, (_, signal) in zip(new_outputs, netlist.outputs)])


def _is_table(signal, pins, table):
    """Tells whether these can be the pins and the table of this signal."""
    return (len(pins) <= MOST_PINS and all([0 <= pin < signal for pin in pins])
            and 0 <= table <= full_table(len(pins)))


def _check_part(part, valid):
    """Raises InvalidNetlist for the first entry of a part that is surplus or not valid."""
    for index, is_valid in enumerate(valid):
        if not is_valid or index >= GREATEST_COUNTS[part]:
            raise InvalidNetlist(part, index)
