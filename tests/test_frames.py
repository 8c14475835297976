"""Promises [29] to [33]: the clauses of the cycles of a net."""

import itertools
import unittest

from helpers import holds, models, plain, random_circuit

from suregate.frames.frames import (
    frame_clauses, in_frame, link_clauses, opening_clauses, same_clauses, start_clauses)
from suregate.graph.net import Net
from suregate.runs.plain import node_values

# Nodes: 1 and 2 inputs, 3 and 4 latches, 5 and 6 ands; so 14 literals.
NET = Net(2, [(1, 12), (0, 5)], [(2, 7), (11, 4)])
EMPTY = Net(0, [], [])


class FramesTest(unittest.TestCase):
    def test_in_frame(self):
        self.assertEqual((3, 0, 13), in_frame(NET, (3, 0, 13), 0))
        self.assertEqual((17, 14, 27), in_frame(NET, (3, 0, 13), 1))
        self.assertEqual((3 + 14 * 1000,), in_frame(NET, (3,), 1000))
        self.assertEqual((), in_frame(NET, (), 5))
        self.assertEqual((16, 16, 15), in_frame(NET, (2, 2, 1), 1))
        self.assertEqual((7, 6), in_frame(EMPTY, (1, 0), 3))

    def test_clauses_in_a_frame_are_tuples(self):
        self.assertIs(tuple, in_frame(NET, (1, 2), 1).__class__)

    def test_frame_clauses(self):
        first = [(1,), (11, 2), (11, 7), (10, 3, 6), (13, 11), (13, 4), (12, 10, 5)]
        self.assertEqual(first, frame_clauses(NET, 0))
        for frame in (1, 2, 77):
            shift = 14 * frame
            moved = [tuple(literal + shift for literal in clause) for clause in first]
            self.assertEqual(moved, frame_clauses(NET, frame))

    def test_frame_clauses_without_ands(self):
        self.assertEqual([(1,)], frame_clauses(EMPTY, 0))
        self.assertEqual([(7,)], frame_clauses(EMPTY, 3))
        self.assertEqual([(1 + 2 * 5 * 6,)], frame_clauses(Net(2, [(0, 0), (1, 1)], []), 6))

    def test_start_clauses(self):
        self.assertEqual([(6,), (9,)], start_clauses(NET))
        self.assertEqual([], start_clauses(EMPTY))
        self.assertEqual([(3,), (4,), (6,)], start_clauses(Net(0, [(0, 0), (1, 0), (1, 0)], [])))

    def test_same_clauses(self):
        self.assertEqual([(7, 11), (6, 10)], same_clauses(6, 11))
        self.assertEqual([(4, 4), (5, 5)], same_clauses(5, 4))
        self.assertEqual([(1, 9), (0, 8)], same_clauses(0, 9))

    def test_link_clauses(self):
        # In frame 1 the latches are the literals 20 and 22.
        self.assertEqual([(21, 12), (20, 13), (23, 5), (22, 4)], link_clauses(NET, 0))
        self.assertEqual([(35, 26), (34, 27), (37, 19), (36, 18)], link_clauses(NET, 1))
        self.assertEqual([(21 + 1400, 1412), (1420, 1413), (1423, 1405), (1422, 1404)], link_clauses(NET, 100))
        self.assertEqual([], link_clauses(EMPTY, 0))
        self.assertEqual([], link_clauses(Net(3, [], [(2, 4)]), 1))

    def test_opening_clauses(self):
        self.assertEqual(frame_clauses(NET, 0) + start_clauses(NET), opening_clauses(NET, 0))
        expected = (
            frame_clauses(NET, 0) + frame_clauses(NET, 1) + frame_clauses(NET, 2) + start_clauses(NET)
            + link_clauses(NET, 0) + link_clauses(NET, 1))
        self.assertEqual(expected, opening_clauses(NET, 2))
        self.assertEqual([(1,), (3,), (5,), (7,)], opening_clauses(EMPTY, 3))

    def test_nets_stay_as_they_are_and_lists_are_new(self):
        before = plain(NET)
        clause = (1, 2)
        for function in (frame_clauses, link_clauses, opening_clauses):
            first = function(NET, 1)
            function(NET, 1).clear()
            self.assertEqual(first, function(NET, 1))
        start_clauses(NET).clear()
        in_frame(NET, clause, 1)
        self.assertEqual(before, plain(NET))
        self.assertEqual([(6,), (9,)], start_clauses(NET))


class MeaningTest(unittest.TestCase):
    def test_models_of_a_frame_are_the_values_of_its_nodes(self):
        for seed in range(5):
            net = random_circuit(seed, 2, 2, 4).as_net()
            expected = [
                node_values(net, list(bits[2:]), list(bits[:2])) for bits in itertools.product((0, 1), repeat=4)]
            self.assertEqual(sorted(expected), models(net.node_count, frame_clauses(net, 0)))

    def test_models_of_the_opening_clauses_are_the_runs(self):
        for seed in range(4):
            net = random_circuit(seed, 1, 2, 2).as_net()
            expected = []
            for course in itertools.product(([0], [1]), repeat=3):
                state, values = [start for start, _ in net.latches], []
                for row in course:
                    nodes = node_values(net, state, row)
                    state = [nodes[literal // 2] ^ literal % 2 for _, literal in net.latches]
                    values += nodes
                expected.append(values)
            self.assertEqual(sorted(expected), models(3 * net.node_count, opening_clauses(net, 2)))

    def test_same_clauses_hold_exactly_for_equal_values(self):
        for x, y in itertools.product(range(4), repeat=2):
            for values in itertools.product((0, 1), repeat=2):
                equal = values[x // 2] ^ x % 2 == values[y // 2] ^ y % 2
                self.assertEqual(equal, all(holds(clause, values) for clause in same_clauses(x, y)))


if __name__ == "__main__":
    unittest.main()
