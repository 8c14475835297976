"""Chains of circuits as text."""

from suregate.errors import InvalidCircuit, InvalidText
from suregate.judge.alike import fault_of_chain
from suregate.text.certificates import take_certificate, write_certificate
from suregate.text.circuits import circuit_of, take_circuit, write_circuit
from suregate.text.lines import LineReader


def write_chain(circuits, certificates):
    """Returns the text of a chain of circuits, with a certificate for each but the first."""
    texts = ["flow\n", write_circuit(circuits[0])]
    for certificate, circuit in zip(certificates, circuits[1:]):
        texts.append(write_certificate(certificate))
        texts.append(write_circuit(circuit))
    return "".join(texts)


def read_chain(text):
    """Returns the circuits and the certificates of the chain that the text writes."""
    reader = LineReader(text)
    reader.take_title("flow")
    parts = [take_circuit(reader)]
    certificates = []
    while reader.has_more():
        certificates.append(take_certificate(reader))
        parts.append(take_circuit(reader))
    # The circuits are made only now, for a wrong line is told before a wrong circuit.
    return [circuit_of(lists) for lists in parts], certificates


def fault_of_text(text):
    """Returns the fault of the text of a chain, or None if all its circuits are alike."""
    try:
        circuits, certificates = read_chain(text)
    except InvalidText as wrong_text:
        return 0, "text", wrong_text.line
    except InvalidCircuit as wrong_circuit:
        return 0, wrong_circuit.part, wrong_circuit.index
    return fault_of_chain(circuits, certificates)
