"""The judge of netlists that cover a circuit."""

from suregate.errors import InvalidCut
from suregate.mapping.netlist import table_value
from suregate.tables.tables import cone_table


def fault_of_cover(circuit, netlist, literals):
    """Returns None if the netlist covers the circuit with the literals, or else the first fault."""
    if not _same_interface(circuit, netlist):
        return "interface", 0
    net = circuit.as_net()
    index = _first_wrong_literal(literals, len(netlist.tables), 2 * net.node_count)
    if index is not None:
        return "literals", index
    # The literals for which the signals stand; inputs and latches come first, as they do among the nodes.
    meant = [2 * node for node in range(1, net.first_and)] + list(literals)
    for index, ((pins, table), literal) in enumerate(zip(netlist.tables, literals)):
        if not _is_table_of(net, literal, [meant[pin] for pin in pins], table):
            return "tables", index
    for index, ((_, _, signal), (_, literal)) in enumerate(zip(netlist.registers, net.latches)):
        if meant[signal] != literal:
            return "registers", index
    for index, ((_, signal), (_, literal)) in enumerate(zip(netlist.outputs, circuit.outputs)):
        if meant[signal] != literal:
            return "outputs", index
    return None


def _same_interface(circuit, netlist):
    """Tells whether the inputs, the names and start values of latches, and the names of outputs are the same."""
    latches = [(name, start) for name, start, _ in circuit.latches]
    registers = [(name, start) for name, start, _ in netlist.registers]
    circuit_names = [name for name, _ in circuit.outputs]
    netlist_names = [name for name, _ in netlist.outputs]
    return circuit.inputs == netlist.inputs and latches == registers and circuit_names == netlist_names


def _first_wrong_literal(literals, count, end):
    """Returns the first index at which a literal is missing, surplus or out of range, or None."""
    for index, literal in enumerate(literals):
        if index >= count or literal < 0 or literal >= end:
            return index
    return len(literals) if len(literals) < count else None


def _is_table_of(net, literal, pin_literals, table):
    """Tells whether the table of pins that stand for these literals has the value of the literal in all cases."""
    nodes = sorted(set([pin // 2 for pin in pin_literals]))
    nodes = [node for node in nodes if node > 0]
    try:
        expected = cone_table(net, literal, nodes)
    except InvalidCut:
        return False
    # The pins as places in a list of the values of literals: those of the constant, and then those of each node.
    places = {node: 2 * place for place, node in enumerate([0] + nodes)}
    pins = [places[pin // 2] + (pin & 1) for pin in pin_literals]
    for point in range(1 << len(nodes)):
        values = [0, 1]
        for place in range(len(nodes)):
            bit = point >> place & 1
            values.extend([bit, 1 - bit])
        if table_value(values, pins, table) != expected >> point & 1:
            return False
    return True
