"""Flows: the circuits that steps make of a circuit, with a certificate for each of them."""

from suregate.errors import InvalidStep
from suregate.graph.circuit import Circuit
from suregate.judge.alike import fault_of_chain
from suregate.latches.latches import merge_latches
from suregate.passes.balance import balance
from suregate.passes.refactor import refactor
from suregate.passes.structure import apply_rules, hash_circuit, trim
from suregate.retime.layers import retime
from suregate.retime.search import least_depth
from suregate.stuck.hidden import remove_hidden
from suregate.sweep.sweep import sweep

STEPS = ("hash", "rules", "balance", "refactor", "sweep", "merge", "trim", "retime", "hidden")
LONGEST_SCRIPT = 20


class Flow:
    """A circuit and those that steps have made of it, each with a certificate that it is like the one before it."""

    def __init__(self, circuit):
        # A copy, so that the flow stays what it is if someone changes the lists of the given circuit.
        self.circuits = [Circuit(circuit.inputs, circuit.latches, circuit.ands, circuit.outputs)]
        self.certificates = []

    def __iter__(self):
        return iter(self.circuits)

    @property
    def last_circuit(self):
        """The last circuit."""
        return self.circuits[-1]

    def apply(self, word, *, most=200):
        """Applies one step to the last circuit; changes the object."""
        if word not in STEPS:
            raise InvalidStep(0)
        for circuit, certificate in list(_step_results(word, self.last_circuit, most)):
            self.circuits.append(circuit)
            self.certificates.append(certificate)

    def fault(self):
        """Returns the fault of the chain, or None."""
        return fault_of_chain(self.circuits, self.certificates)


def run_flow(circuit, script, *, most=200):
    """Returns the flow of the script."""
    for index, word in enumerate(script):
        if index >= LONGEST_SCRIPT or word not in STEPS:
            raise InvalidStep(index)
    flow = Flow(circuit)
    for word in script:
        flow.apply(word, most=most)
    return flow


def _step_results(word, circuit, most):
    """Returns the circuits and certificates that a step makes of a circuit, in order."""
    if word == "retime":
        _, labels, _ = least_depth(circuit)
        return retime(circuit, labels)
    if word == "hidden":
        return [remove_hidden(circuit, most=most)]
    return [_passed(word, circuit)]


def _passed(word, circuit):
    """Returns the circuit and the certificate of one of the first seven steps."""
    if word == "hash":
        return hash_circuit(circuit)
    if word == "rules":
        return apply_rules(circuit)
    if word == "balance":
        return balance(circuit)
    if word == "refactor":
        return refactor(circuit)
    if word == "sweep":
        return sweep(circuit)
    if word == "merge":
        return merge_latches(circuit)
    return trim(circuit)
