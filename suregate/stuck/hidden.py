"""Circuits without hidden places."""

from suregate.compare.compare import compare
from suregate.compare.reach import explore
from suregate.graph.joining import Joined
from suregate.passes.structure import hash_circuit, trim
from suregate.stuck.places import with_stuck
from suregate.stuck.trials import Trials


def remove_hidden(circuit, *, most):
    """Returns the circuit with constants in the place of all hidden literals, and the certificate."""
    present = _cleaned(circuit)
    courses = []
    hidden = _first_hidden(present, courses, most)
    while hidden is not None:
        place, value = hidden
        present = _cleaned(with_stuck(present, place, value))
        hidden = _first_hidden(present, courses, most)
    _, certificate = compare(circuit, present, most=most)
    return present, certificate


def _cleaned(circuit):
    """Returns the circuit after hashing and trimming."""
    hashed, _ = hash_circuit(circuit)
    trimmed, _ = trim(hashed)
    return trimmed


def _first_hidden(circuit, courses, most):
    """Returns the first hidden place and its value, or None; appends to the courses those that find others."""
    trials = Trials(circuit)
    cycle_lists = [trials.first_cycles(course) for course in courses]
    for index, (place, value) in enumerate(trials.stuck):
        if all([found[index] is None for found in cycle_lists]):
            _, course = explore(Joined(circuit, with_stuck(circuit, place, value)), most)
            if course is None:
                return place, value
            courses.append(course)
            cycle_lists.append(trials.first_cycles(course))
    return None
