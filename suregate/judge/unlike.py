"""The judge of courses that tell circuits apart, and of layers which show that no course is shorter."""

from suregate.clauses.units import Units
from suregate.errors import UnlikeInterfaces
from suregate.frames.frames import frame_clauses, in_frame, link_clauses, same_clauses, start_clauses
from suregate.graph.joining import Joined
from suregate.runs.plain import cycles, is_row


def fault_of_unlike(left, right, course, layers):
    """Returns the first fault of a course and layers, or None."""
    try:
        joined = Joined(left, right)
    except UnlikeInterfaces:
        return "interfaces", 0
    fault = _fault_of_course(len(left.inputs), course)
    if fault is None:
        fault = _fault_of_outputs(left, right, course)
    if fault is None and len(layers) != len(course) - 1:
        fault = ("layers", len(layers))
    if fault is None:
        fault = _fault_of_layers(joined, layers)
    return fault


def _fault_of_course(input_count, course):
    """Returns the fault of the first invalid row, or None."""
    for index, row in enumerate(course):
        if not isinstance(row, list) or not is_row(input_count, row):
            return "course", index
    if not course:
        return "course", 0
    return None


def _fault_of_outputs(left, right, course):
    """Returns the fault of the first cycle whose outputs are not as they should be, or None."""
    last = len(course) - 1
    left_outputs = [outputs for outputs, _ in cycles(left, course)]
    right_outputs = [outputs for outputs, _ in cycles(right, course)]
    for index, (one, other) in enumerate(zip(left_outputs, right_outputs)):
        if (one != other) != (index == last):
            return "outputs", index
    return None


def _fault_of_layers(joined, layers):
    """Returns the fault of the first layer that has one, or None."""
    net = joined.joint
    units = Units(start_clauses(net))
    for frame, lines in enumerate(layers):
        if frame > 0:
            _add_clauses(units, link_clauses(net, frame - 1))
        _add_clauses(units, frame_clauses(net, frame))
        end = 2 * (frame + 1) * net.node_count
        for line in lines:
            if not all([0 <= literal < end for literal in line]) or not units.follows(line):
                return "lines", frame
            units.add_clause(line)
        for x, y in joined.goals:
            clauses = [in_frame(net, clause, frame) for clause in same_clauses(x, y)]
            if not all([units.follows(clause) for clause in clauses]):
                return "goals", frame
    return None


def _add_clauses(units, clauses):
    """Adds clauses to the units."""
    for clause in clauses:
        units.add_clause(clause)
