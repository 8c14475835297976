"""The places of a circuit, and circuits in which one of them is stuck at a value."""

from suregate.graph.circuit import Circuit
from suregate.runs.plain import check_course, cycles

SIDES = ("left", "right")


def places_of(circuit):
    """Returns the places at which a literal other than 0 and 1 occurs, in order."""
    places = []
    for index, pair in enumerate(circuit.ands):
        places.extend([(side, index) for side, literal in zip(SIDES, pair) if literal > 1])
    places.extend([("next", index) for index, (_, _, literal) in enumerate(circuit.latches) if literal > 1])
    places.extend([("output", index) for index, (_, literal) in enumerate(circuit.outputs) if literal > 1])
    return places


def with_stuck(circuit, place, value):
    """Returns the circuit with the literal 0 or 1 at a place."""
    word, index = place
    latches = list(circuit.latches)
    ands = list(circuit.ands)
    outputs = list(circuit.outputs)
    if word == "next":
        name, start, _ = latches[index]
        latches[index] = (name, start, value)
    elif word == "output":
        name, _ = outputs[index]
        outputs[index] = (name, value)
    else:
        left, right = ands[index]
        ands[index] = (value, right) if word == "left" else (left, value)
    return Circuit(circuit.inputs, latches, ands, outputs)


def first_difference(circuit, other, course):
    """Returns the first cycle of the course in which the outputs of the two circuits differ, or None."""
    check_course(len(circuit.inputs), course)
    circuit_outputs = [outputs for outputs, _ in cycles(circuit, course)]
    other_outputs = [outputs for outputs, _ in cycles(other, course)]
    for cycle, (one, two) in enumerate(zip(circuit_outputs, other_outputs)):
        if one != two:
            return cycle
    return None
