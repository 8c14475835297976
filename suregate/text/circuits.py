"""Circuits as text."""

from suregate.graph.circuit import Circuit
from suregate.text.lines import LineReader, line_of, numbers_of


def write_circuit(circuit):
    """Returns the text of a circuit."""
    lines = ["circuit\n"]
    lines += [line_of("input", (name,)) for name in circuit.inputs]
    lines += [line_of("latch", latch) for latch in circuit.latches]
    lines += [line_of("and", pair) for pair in circuit.ands]
    lines += [line_of("output", output) for output in circuit.outputs]
    return "".join(lines)


def read_circuit(text):
    """Returns the circuit that the text writes."""
    reader = LineReader(text)
    parts = take_circuit(reader)
    reader.finish()
    return circuit_of(parts)


def take_circuit(reader):
    """Takes the lines of a circuit and returns its four lists, which are checked only when it is made."""
    reader.take_title("circuit")
    inputs = reader.take_entries("input", _input_of)
    latches = reader.take_entries("latch", _latch_of)
    ands = reader.take_entries("and", _and_of)
    outputs = reader.take_entries("output", _output_of)
    return inputs, latches, ands, outputs


def circuit_of(parts):
    """Makes the circuit of the four lists."""
    inputs, latches, ands, outputs = parts
    return Circuit(inputs, latches, ands, outputs)


def _input_of(words):
    if len(words) != 1:
        return None
    return words[0]


def _latch_of(words):
    numbers = numbers_of(words[1:])
    if len(words) != 3 or numbers is None:
        return None
    return words[0], numbers[0], numbers[1]


def _and_of(words):
    if len(words) != 2:
        return None
    return numbers_of(words)


def _output_of(words):
    numbers = numbers_of(words[1:])
    if len(words) != 2 or numbers is None:
        return None
    return words[0], numbers[0]
