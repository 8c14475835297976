"""Runs of one circuit under one course."""

from suregate.errors import InvalidCourse

LONGEST_COURSE = 1000


def value_of(values, literal):
    """Returns the value of a literal, given the values of the nodes."""
    return values[literal // 2] ^ (literal & 1)


def node_values(net, state, row):
    """Returns the values of all nodes of a net in a state under a row."""
    values = [0, *row, *state]
    for left, right in net.ands:
        # The values are not fetched by value_of, because this runs for each and in each cycle.
        values.append((values[left // 2] ^ (left & 1)) & (values[right // 2] ^ (right & 1)))
    return values


def start_state(circuit):
    """Returns the state of the first cycle."""
    return [start for _, start, _ in circuit.latches]


def step(circuit, state, row):
    """Returns the outputs of a cycle and the next state."""
    values = node_values(circuit.as_net(), state, row)
    outputs = [value_of(values, literal) for _, literal in circuit.outputs]
    next_state = [value_of(values, literal) for _, _, literal in circuit.latches]
    return outputs, next_state


def cycles(circuit, course):
    """Yields for each cycle of the course the outputs and the next state."""
    state = start_state(circuit)
    for row in course:
        outputs, state = step(circuit, state, row)
        # A copy, for whoever takes the list may change it.
        yield outputs, list(state)


def run(circuit, course):
    """Returns the outputs of all cycles of the course."""
    check_course(len(circuit.inputs), course)
    return [outputs for outputs, _ in cycles(circuit, course)]


def state_after(circuit, course):
    """Returns the state after the last cycle of the course."""
    check_course(len(circuit.inputs), course)
    state = start_state(circuit)
    for _, next_state in cycles(circuit, course):
        state = next_state
    return state


def check_course(input_count, course):
    """Raises InvalidCourse for the first row that is surplus or is not one bit for each input."""
    for index, row in enumerate(course):
        if index >= LONGEST_COURSE or not is_row(input_count, row):
            raise InvalidCourse(index)


def is_row(input_count, row):
    """Tells whether these are one bit for each input."""
    return len(row) == input_count and all([bit in (0, 1) for bit in row])
