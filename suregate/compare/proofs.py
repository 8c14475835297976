"""Lines from which clauses about one cycle and the next one follow."""

from suregate.runs.scattered import scattered_words
from suregate.sweep.classes import Classes
from suregate.sweep.likeness import Likeness

LEAST_CASES = 256


def lines_for(net, facts, states):
    """Returns lines of one cycle which follow in turn where the facts hold, the clauses that hold in just the states.

    Behind them it follows that nodes with the same values in all these states are the same, and that the facts hold
    in the next cycle.
    """
    likeness = Likeness(net, facts)
    add_likes(net, likeness, state_words(states), len(states))
    for fact in facts:
        likeness.model_against(next_claim(net, fact))
    return likeness.lines_since(0)


def add_likes(net, prover, latch_words, state_count):
    """Lets the prover show for each node which smaller one it is like; no two nodes differ only in other states."""
    times = 1 + LEAST_CASES // state_count
    words = [_repeated(word, state_count, times) for word in latch_words]
    case_count = state_count * times
    leaf_words = scattered_words(net.input_count, case_count) + words
    classes = Classes(net, prover, leaf_words, case_count, net.input_count)
    for node in range(net.node_count):
        classes.like_literal(node)


def state_words(states):
    """Returns one word for each latch, with one case for each of the states, in order."""
    return [int("".join([str(value) for value in reversed(values)]), 2) for values in zip(*states)]


def _repeated(word, count, times):
    """Returns the word with its so many cases so many times."""
    total = 0
    for _ in range(times):
        total = total << count | word
    return total


def next_claim(net, clause):
    """Returns the clause of this cycle which says that a clause of latches holds in the next cycle."""
    literals = []
    for literal in clause:
        index = literal // 2 - net.first_latch
        if index >= 0:
            _, ahead = net.latches[index]
            literal = ahead ^ (literal & 1)
        literals.append(literal)
    return tuple(literals)
