"""What several tests use: circuits by chance, and slow ways to the same answers."""

import itertools
import random
import unittest

from suregate.errors import SuregateError
from suregate.graph.circuit import Circuit


class SuregateTest(unittest.TestCase):
    """A test that can ask for an error with its fields."""

    def assert_error(self, error_class, fields, function, *arguments):
        """Checks that a call raises exactly this error, with exactly these values of its fields."""
        with self.assertRaises(SuregateError) as caught:
            function(*arguments)
        self.assertIs(error_class, caught.exception.__class__)
        self.assertEqual(fields, vars(caught.exception))


def random_circuit(seed, input_count=3, latch_count=3, and_count=12, output_count=3):
    """Returns a circuit that is the same for the same numbers."""
    chance = random.Random(seed)
    first_and = 1 + input_count + latch_count
    end = 2 * (first_and + and_count)
    ands = [(chance.randrange(2 * node), chance.randrange(2 * node)) for node in range(first_and, end // 2)]
    return Circuit(
        [f"i{k}" for k in range(input_count)],
        [(f"q{k}", chance.randrange(2), chance.randrange(end)) for k in range(latch_count)],
        ands,
        [(f"o{k}", chance.randrange(end)) for k in range(output_count)])


def random_course(seed, input_count, length):
    """Returns a course that is the same for the same numbers."""
    chance = random.Random(seed)
    return [[chance.randrange(2) for _ in range(input_count)] for _ in range(length)]


def random_clauses(seed, count, clause_count, longest=4):
    """Returns clauses over so many variables, with some repeated literals and complements."""
    chance = random.Random(seed)
    return [
        tuple(chance.randrange(2 * count) for _ in range(chance.randrange(1, longest + 1)))
        for _ in range(clause_count)]


def holds(clause, values):
    """Tells whether a clause holds under the values of the variables."""
    return any(values[literal // 2] != literal % 2 for literal in clause)


def models(count, clauses):
    """Returns all models, by trying all assignments."""
    return [
        list(values) for values in itertools.product((0, 1), repeat=count)
        if all(holds(clause, values) for clause in clauses)]


def slow_spread(clauses, literals):
    """Unit propagation as the document tells it, one rule at a time."""
    known = set(literals)
    while True:
        if any(literal ^ 1 in known for literal in known):
            return True, []
        forced = None
        for clause in clauses:
            if any(literal in known for literal in clause):
                continue
            open_ones = {literal for literal in clause if literal ^ 1 not in known}
            if not open_ones:
                return True, []
            if len(open_ones) == 1:
                forced = open_ones.pop()
        if forced is None:
            return False, sorted(known)
        known.add(forced)


def slow_follow_in_turn(clauses, lines):
    """Tells whether lines follow in turn, by slow propagation."""
    clauses = list(clauses)
    for line in lines:
        if not slow_spread(clauses, [literal ^ 1 for literal in line])[0]:
            return False
        clauses.append(line)
    return True


def plain(value):
    """Returns the value with each object of the package replaced by its fields, and each list by a new one."""
    if isinstance(value, list):
        return [plain(entry) for entry in value]
    if isinstance(value, tuple):
        return tuple(plain(entry) for entry in value)
    if isinstance(value, dict):
        return {key: plain(entry) for key, entry in value.items()}
    if value.__class__.__module__.startswith("suregate."):
        return value.__class__.__name__, plain(vars(value))
    return value


def scramble(value):
    """Changes every list within the value."""
    if isinstance(value, (list, tuple)):
        for entry in value:
            scramble(entry)
    elif value.__class__.__module__.startswith("suregate."):
        for entry in vars(value).values():
            scramble(entry)
    if isinstance(value, list):
        value.append("changed")
        value.reverse()


def edge_circuits():
    """Returns circuits at the edges: without ands, latches, inputs or outputs, and with constant literals."""
    return [
        Circuit([], [], [], []),
        Circuit(["a"], [], [], []),
        Circuit(["a"], [], [], [("y", 3), ("z", 1)]),
        Circuit([], [("p", 1, 2), ("q", 0, 3)], [], [("y", 4)]),
        Circuit(["a"], [("p", 1, 6), ("q", 0, 2), ("r", 0, 9)], [], [("y", 4)]),
        Circuit(["a", "b"], [], [(2, 4), (3, 5), (7, 9)], [("y", 10)]),
        Circuit(["a", "b"], [], [(2, 4), (3, 5), (7, 9)], []),
        Circuit(["a"], [("p", 0, 8)], [(2, 4), (6, 5), (8, 8)], []),
        Circuit([], [("p", 0, 5), ("q", 1, 2)], [(2, 4), (3, 5)], [("y", 6)]),
        Circuit(["a"], [("p", 1, 7)], [(0, 1), (1, 1), (2, 6), (8, 1), (10, 4)], [("y", 12), ("z", 9)]),
        Circuit([], [], [(1, 1), (0, 0), (2, 5)], [("y", 7)]),
    ]


def tree_circuit(seed, input_count=5, latch_count=2, and_count=24, output_count=3):
    """Returns a circuit in which many ands are read once, and plainly; the same for the same numbers."""
    chance = random.Random(seed)
    first_and = 1 + input_count + latch_count
    unread = [2 * node for node in range(1, first_and)]
    ands = []
    for node in range(first_and, first_and + and_count):
        pair = []
        for _ in range(2):
            place = chance.randrange(len(unread))
            again = chance.random() < 0.2
            literal = unread[place] if again or len(unread) == 1 else unread.pop(place)
            pair.append(literal ^ (chance.random() < 0.15))
        ands.append(tuple(pair))
        unread.append(2 * node)
        if len(unread) < 6:
            unread.append(2 * chance.randrange(node))
    end = 2 * (first_and + and_count)
    return Circuit(
        [f"i{k}" for k in range(input_count)],
        [(f"q{k}", chance.randrange(2), chance.randrange(end)) for k in range(latch_count)],
        ands,
        [(f"o{k}", chance.choice(unread) ^ chance.randrange(2)) for k in range(output_count)])


def cuts_off(net, nodes, node):
    """Tells whether the nodes cut off a node, as [49] tells it."""
    told = {place: place == 0 or place in nodes for place in range(net.first_and)}
    for place, (left, right) in enumerate(net.ands, start=net.first_and):
        told[place] = place in nodes or (told[left // 2] and told[right // 2])
    return told[node]


def slow_table(net, literal, leaves):
    """Returns the table of a literal over leaves that cut off its node, point by point."""
    table = 0
    for point in range(1 << len(leaves)):
        values = {0: 0}
        for node in range(net.node_count):
            if node in leaves:
                values[node] = point >> leaves.index(node) & 1
            elif node >= net.first_and:
                left, right = net.ands[node - net.first_and]
                if left // 2 in values and right // 2 in values:
                    values[node] = (values[left // 2] ^ left & 1) & (values[right // 2] ^ right & 1)
        table |= (values[literal // 2] ^ literal & 1) << point
    return table
