"""Pairs of circuits that are compared, and slow ways to compare them."""

import itertools

from helpers import random_circuit

from suregate.graph.builder import Builder
from suregate.graph.circuit import Circuit
from suregate.graph.joining import Joined
from suregate.runs.plain import node_values, run, value_of


def counter(width, last=None, mark=0):
    """Returns a counter of the cycles in which the input is 1; its output is 1 (or 0) if it is at the last number."""
    builder = Builder(1 + width)
    carry = 2
    nexts = []
    hit = 1
    for place in range(width):
        latch = 4 + 2 * place
        nexts.append(builder.unlike(latch, carry))
        carry = builder.both(latch, carry)
        if last is not None:
            hit = builder.both(hit, latch ^ 1 ^ (last >> place & 1))
    if last is None:
        hit = 0
    latches = [(f"c{place}", 0, literal) for place, literal in enumerate(nexts)]
    return Circuit(["go"], latches, builder.pairs, [("y", hit ^ mark)])


def rounds(count, shown):
    """Returns two circuits that count cycles in which the input is 1, modulo some number, and show one of the counts.

    One of them has a latch for each count, the other one has the count in binary.
    """
    builder = Builder(1 + count)
    places = [4 + 2 * place for place in range(count)]
    nexts = [builder.choose(2, places[place - 1], places[place]) for place in range(count)]
    one = Circuit(
        ["go"], [(f"p{place}", int(place == 0), literal) for place, literal in enumerate(nexts)],
        builder.pairs, [("y", places[shown])])
    return one, binary_rounds(count, shown)


def binary_rounds(count, shown):
    """Returns the second one of these circuits."""
    width = (count - 1).bit_length()
    builder = Builder(1 + width)
    bits = [4 + 2 * place for place in range(width)]

    def is_at(number):
        literal = 1
        for place, bit in enumerate(bits):
            literal = builder.both(literal, bit ^ 1 ^ (number >> place & 1))
        return literal

    carry = 2
    nexts = []
    last = is_at(count - 1)
    for bit in bits:
        nexts.append(builder.choose(last, builder.both(bit, 3), builder.unlike(bit, carry)))
        carry = builder.both(carry, bit)
    hit = is_at(shown)
    return Circuit(
        ["go"], [(f"c{place}", 0, literal) for place, literal in enumerate(nexts)], builder.pairs, [("y", hit)])


def delay(length, start=0, mark=0):
    """Returns a circuit that shows its input so many cycles later."""
    latches = [(f"d{place}", start, 2 + 2 * place) for place in range(length)]
    return Circuit(["a"], latches, [], [("y", 2 * (1 + length) ^ mark)])


def changed(circuit, seed):
    """Returns the circuit with a few literals replaced."""
    other = random_circuit(
        seed, len(circuit.inputs), len(circuit.latches), len(circuit.ands), len(circuit.outputs))
    ands = list(circuit.ands)
    place = seed % len(ands)
    ands[place] = (ands[place][0], other.ands[place][1])
    return Circuit(circuit.inputs, circuit.latches, ands, circuit.outputs)


def pairs_of_circuits():
    """Returns pairs with the same interface: alike ones and others, at the edges and by chance."""
    pairs = [
        (Circuit([], [], [], []), Circuit([], [("q", 1, 3)], [], [])),
        (Circuit([], [], [], [("y", 0)]), Circuit([], [], [], [("y", 1)])),
        (Circuit([], [("q", 0, 3)], [], [("y", 2)]), Circuit([], [("p", 1, 3)], [], [("y", 3)])),
        (Circuit([], [("q", 0, 1)], [], [("y", 2)]), Circuit([], [], [], [("y", 0)])),
        (Circuit(["a", "b"], [], [(2, 4)], [("y", 6)]), Circuit(["a", "b"], [], [(3, 5)], [("y", 7)])),
        (Circuit(["a", "b"], [], [(2, 4)], [("y", 6)]), Circuit(["a", "b"], [], [(4, 2), (6, 4)], [("y", 8)])),
        (Circuit(["a"], [("q", 0, 2)], [], []), Circuit(["a"], [], [], [])),
        (delay(2), delay(2)), (delay(2), delay(3)), (delay(3), delay(3, 1)), (delay(1, 1, 1), delay(1)),
        rounds(3, 1), rounds(5, 4), rounds(7, 0), (rounds(5, 2)[0], rounds(6, 2)[1]), (rounds(4, 3)[1], rounds(5, 3)[1]),
        (counter(2, 3), counter(2)), (counter(3, 5), counter(3)), (counter(3, 5), counter(3, 6)),
        (counter(3, 5), counter(3, 5)), (counter(2, 3), counter(3, 3)), (counter(3, mark=1), counter(2, 2, 1)),
    ]
    for seed in range(30):
        circuit = random_circuit(seed, seed % 3, 2 + seed % 2, 8, 2)
        pairs.append((circuit, changed(circuit, seed)))
        pairs.append((circuit, random_circuit(seed + 100, seed % 3, 2, 8, 2)))
    return pairs


def slow_explore(left, right, most):
    """Returns what explore returns, found as [69] tells it; None for too many states."""
    joined = Joined(left, right)
    net = joined.joint
    start = tuple(start for start, _ in net.latches)
    met = [start]
    courses = {start: []}
    for state in met:
        rows = [list(row) for row in itertools.product((0, 1), repeat=net.input_count)]
        for row in rows:
            values = node_values(net, list(state), row)
            if any(value_of(values, x) != value_of(values, y) for x, y in joined.goals):
                return met, courses[state] + [row]
        for row in rows:
            values = node_values(net, list(state), row)
            following = tuple(value_of(values, literal) for _, literal in net.latches)
            if following not in courses:
                courses[following] = courses[state] + [row]
                met.append(following)
        if len(met) > most:
            return None
    return met, None


def first_course(left, right, longest):
    """Returns the first shortest course that tells the circuits apart, of all courses, or None if none is as short."""
    for length in range(1, longest + 1):
        for bits in itertools.product((0, 1), repeat=length * len(left.inputs)):
            width = len(left.inputs)
            course = [list(bits[place * width:(place + 1) * width]) for place in range(length)]
            if run(left, course)[-1] != run(right, course)[-1]:
                return course
    return None


def unlike_interfaces():
    """Returns a circuit and others with another interface."""
    circuit = Circuit(["a", "b"], [("q", 0, 2)], [], [("y", 6), ("z", 2)])
    return circuit, [
        Circuit(["b", "a"], [("q", 0, 2)], [], [("y", 6), ("z", 2)]),
        Circuit(["a"], [("q", 0, 2)], [], [("y", 4), ("z", 2)]),
        Circuit(["a", "b", "c"], [("q", 0, 2)], [], [("y", 8), ("z", 2)]),
        Circuit(["a", "b"], [("q", 0, 2)], [], [("z", 6), ("y", 2)]),
        Circuit(["a", "b"], [("q", 0, 2)], [], [("y", 6)]),
        Circuit(["a", "b"], [("q", 0, 2)], [], [("y", 6), ("z", 2), ("x", 2)]),
        Circuit([], [], [], []),
    ]
