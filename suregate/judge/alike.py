"""The judge of certificates that circuits are alike."""

from suregate.clauses.units import Units
from suregate.errors import UnlikeInterfaces
from suregate.frames.frames import frame_clauses, in_frame, link_clauses, same_clauses, start_clauses
from suregate.graph.joining import Joined


def fault_of_alike(left, right, certificate):
    """Returns the first fault of the certificate that two circuits are alike, or None."""
    try:
        joined = Joined(left, right)
    except UnlikeInterfaces:
        return "interfaces", 0
    fault = _fault_of_start(joined.joint, certificate)
    if fault is None:
        fault = _fault_of_cycles(joined, certificate)
    return fault


def fault_of_chain(circuits, certificates):
    """Returns the first fault of the certificates of a chain of circuits, with its place, or None."""
    for place, certificate in enumerate(certificates):
        fault = fault_of_alike(circuits[place], circuits[place + 1], certificate)
        if fault is not None:
            part, index = fault
            return place, part, index
    return None


def _fault_of_start(net, certificate):
    """Returns the first fault of the facts in the first cycle, or None."""
    units = Units(frame_clauses(net, 0) + start_clauses(net))
    end = 2 * net.node_count
    index = _add_in_turn(units, certificate.start_lines, end)
    if index is not None:
        return "start_lines", index
    index = _add_in_turn(units, certificate.facts, end)
    if index is not None:
        return "start", index
    return None


def _fault_of_cycles(joined, certificate):
    """Returns the first fault of the goals in a cycle in which the facts hold, and of the facts in the next one."""
    net = joined.joint
    units = Units(frame_clauses(net, 0) + certificate.facts)
    index = _add_in_turn(units, certificate.lines, 2 * net.node_count)
    if index is not None:
        return "lines", index
    for index, (x, y) in enumerate(joined.goals):
        if not all([units.follows(clause) for clause in same_clauses(x, y)]):
            return "goals", index
    return _fault_of_next(net, units, certificate)


def _fault_of_next(net, units, certificate):
    """Returns the first fault of the facts in the next cycle, or None; adds clauses to the units of this cycle."""
    for clause in frame_clauses(net, 1) + link_clauses(net, 0):
        units.add_clause(clause)
    end = 4 * net.node_count
    index = _add_in_turn(units, certificate.next_lines, end)
    if index is not None:
        return "next_lines", index
    index = _add_in_turn(units, [in_frame(net, fact, 1) for fact in certificate.facts], end)
    if index is not None:
        return "next", index
    return None


def _add_in_turn(units, lines, end):
    """Adds each line, or returns the index of the first line that does not follow or has a literal out of range."""
    for index, line in enumerate(lines):
        if not all([0 <= literal < end for literal in line]) or not units.follows(line):
            return index
        units.add_clause(line)
    return None
