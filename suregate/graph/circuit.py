"""Circuits: inputs, latches, ands and outputs, checked when they are made."""

from suregate.errors import InvalidCircuit
from suregate.graph.net import Net

LETTERS = "abcdefghijklmnopqrstuvwxyz"
NAME_CHARACTERS = "abcdefghijklmnopqrstuvwxyz0123456789_"
LONGEST_NAME = 12
GREATEST_COUNTS = {"inputs": 16, "latches": 40, "ands": 2000, "outputs": 32}


def is_name(text):
    """Tells whether the text is a name."""
    if len(text) < 1 or len(text) > LONGEST_NAME or text[0] not in LETTERS:
        return False
    return all([character in NAME_CHARACTERS for character in text])


class Circuit:
    """A clocked circuit: its inputs, latches, ands and outputs."""

    def __init__(self, inputs, latches, ands, outputs):
        self.inputs = list(inputs)
        self.latches = list(latches)
        self.ands = list(ands)
        self.outputs = list(outputs)
        _check_circuit(self)

    def as_net(self):
        """Returns the net of the circuit, a new one."""
        latches = [(start, literal) for _, start, literal in self.latches]
        return Net(len(self.inputs), latches, self.ands)

    def __eq__(self, other):
        return (isinstance(other, Circuit) and self.inputs == other.inputs and self.latches == other.latches
                and self.ands == other.ands and self.outputs == other.outputs)


def _check_circuit(circuit):
    """Raises InvalidCircuit for the first entry of the circuit that is invalid."""
    net = circuit.as_net()
    end = 2 * net.node_count
    input_count = len(circuit.inputs)
    new_names = tell_new_names(circuit.inputs + [name for name, _, _ in circuit.latches])
    new_outputs = tell_new_names([name for name, _ in circuit.outputs])
    _check_part("inputs", new_names[:input_count])
    _check_part("latches", [
        new and start in (0, 1) and 0 <= literal < end
        for new, (_, start, literal) in zip(new_names[input_count:], circuit.latches)])
    _check_part("ands", [
        0 <= left < 2 * node and 0 <= right < 2 * node
        for node, (left, right) in enumerate(circuit.ands, start=net.first_and)])
    _check_part("outputs", [
        new and 0 <= literal < end for new, (_, literal) in zip(new_outputs, circuit.outputs)])


def tell_new_names(texts):
    """Tells for each text whether it is a name, and none of the texts before it is the same."""
    told = {}
    answers = []
    for text in texts:
        answers.append(is_name(text) and text not in told)
        told[text] = True
    return answers


def _check_part(part, valid):
    """Raises InvalidCircuit for the first entry of a part that is surplus or not valid."""
    for index, is_valid in enumerate(valid):
        if not is_valid or index >= GREATEST_COUNTS[part]:
            raise InvalidCircuit(part, index)
