"""Clauses that say that the joint state is in a set of states."""


def blocking_clauses(states, first_latch, latch_count):
    """Returns the clauses of the parts without a state, in order."""
    clauses = []
    # Each part: its states, by how many latches was divided, and the literals of these that are false in the part.
    waiting = [(list({state: True for state in states}), 0, ())]
    while waiting:
        members, place, literals = waiting.pop()
        if not members:
            clauses.append(literals)
        elif len(members) < 1 << (latch_count - place):
            # The part with 0 is pushed last, for it comes first.
            for bit in (1, 0):
                part = [state for state in members if state[place] == bit]
                waiting.append((part, place + 1, (*literals, 2 * (first_latch + place) + bit)))
    return clauses
