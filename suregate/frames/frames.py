"""The clauses that describe the cycles of a net."""


def in_frame(net, clause, frame):
    """Returns the clause in the frame."""
    shift = 2 * frame * net.node_count
    return tuple([literal + shift for literal in clause])


def frame_clauses(net, frame):
    """Returns the clauses of the constant and of the ands in the frame."""
    shift = 2 * frame * net.node_count
    clauses = [(1 + shift,)]
    for node, (left, right) in enumerate(net.ands, start=net.first_and):
        literal = 2 * node + shift
        clauses.append((literal + 1, left + shift))
        clauses.append((literal + 1, right + shift))
        clauses.append((literal, (left ^ 1) + shift, (right ^ 1) + shift))
    return clauses


def start_clauses(net):
    """Returns the clauses that give each latch its start value in frame 0."""
    return [(2 * node + 1 - start,) for node, (start, _) in enumerate(net.latches, start=net.first_latch)]


def link_clauses(net, frame):
    """Returns the clauses that make each latch of the next frame the same as its next literal in this frame."""
    shift = 2 * frame * net.node_count
    next_shift = shift + 2 * net.node_count
    clauses = []
    for node, (_, literal) in enumerate(net.latches, start=net.first_latch):
        clauses.extend(same_clauses(2 * node + next_shift, literal + shift))
    return clauses


def same_clauses(x, y):
    """Returns the two clauses that say that two literals are the same."""
    return [(x ^ 1, y), (x, y ^ 1)]


def opening_clauses(net, last):
    """Returns the clauses of the frames from 0 to the last one, the start clauses and the links between the frames."""
    clauses = []
    for frame in range(last + 1):
        clauses.extend(frame_clauses(net, frame))
    clauses.extend(start_clauses(net))
    for frame in range(last):
        clauses.extend(link_clauses(net, frame))
    return clauses
