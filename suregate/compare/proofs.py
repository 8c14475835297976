"""Lines from which clauses about one cycle and the next one follow."""

from suregate.frames.frames import same_clauses
from suregate.runs.scattered import scattered_words
from suregate.sweep.classes import Classes
from suregate.sweep.likeness import Likeness

LEAST_CASES = 256


def lines_for(net, clauses, claims, states):
    """Returns lines of one cycle which follow in turn where the clauses hold, and from which the claims follow.

    The claims are clauses that hold in each cycle in which the clauses hold; these hold in the states.
    """
    likeness = Likeness(net, clauses)
    add_likes(net, likeness, states)
    for claim in claims:
        likeness.model_against(claim)
    return likeness.lines_since(0)


def add_likes(net, prover, states):
    """Lets the prover learn for each node which smaller one it is like; the nodes can differ only in the states.

    Whatever is to be shown then, is shown of less different nodes.
    """
    case_count = len(states) * (1 + LEAST_CASES // len(states))
    leaf_words = scattered_words(net.input_count, case_count) + state_words(states, case_count)
    classes = Classes(net, prover, leaf_words, case_count, net.input_count)
    for node in range(net.node_count):
        classes.like_literal(node)


def state_words(states, case_count):
    """Returns one word for each latch, whose cases are in the states, one after the other and again."""
    words = [0] * len(states[0])
    for case in range(case_count):
        for place, value in enumerate(states[case % len(states)]):
            words[place] |= value << case
    return words


def goal_claims(goals):
    """Returns the clauses that say that the literals of each goal are the same."""
    claims = []
    for x, y in goals:
        claims.extend(same_clauses(x, y))
    return claims


def next_claim(net, clause):
    """Returns the clause of this cycle which says that a clause of latches holds in the next cycle."""
    literals = []
    for literal in clause:
        index = literal // 2 - net.first_latch
        if index >= 0:
            _, ahead = net.latches[index]
            literal = ahead ^ (literal & 1)
        literals.append(literal)
    return tuple(literals)
