"""Promise [12]: two circuits side by side."""

import random
import unittest

from helpers import SuregateTest, plain, random_circuit

from suregate.errors import UnlikeInterfaces
from suregate.graph.circuit import Circuit
from suregate.graph.joining import Joined
from suregate.runs.plain import node_values, start_state, step, value_of

LEFT = Circuit(["a", "b"], [("q", 1, 11)], [(2, 4), (6, 9)], [("y", 11), ("z", 2)])
RIGHT = Circuit(["a", "b"], [("p", 0, 10), ("r", 1, 3)], [(6, 9)], [("y", 8), ("z", 11)])


class JoinedTest(SuregateTest):
    def test_joint_net(self):
        joined = Joined(LEFT, RIGHT)
        # Nodes: 1 a, 2 b, 3 q, 4 p, 5 r, 6 and 7 the ands of the left one, 8 the and of the right one.
        self.assertEqual(2, joined.joint.input_count)
        self.assertEqual([(1, 15), (0, 16), (1, 3)], joined.joint.latches)
        self.assertEqual([(2, 4), (6, 13), (8, 11)], joined.joint.ands)
        self.assertEqual([(15, 10), (2, 17)], joined.goals)

    def test_joint_literals(self):
        joined = Joined(LEFT, RIGHT)
        lefts = [joined.from_left(literal) for literal in range(12)]
        rights = [joined.from_right(literal) for literal in range(12)]
        self.assertEqual([0, 1, 2, 3, 4, 5, 6, 7, 12, 13, 14, 15], lefts)
        self.assertEqual([0, 1, 2, 3, 4, 5, 8, 9, 10, 11, 16, 17], rights)

    def test_empty_circuits(self):
        joined = Joined(Circuit([], [], [], []), Circuit([], [], [], []))
        self.assertEqual((0, [], [], []), (
            joined.joint.input_count, joined.joint.latches, joined.joint.ands, joined.goals))

    def test_without_latches_on_one_side(self):
        joined = Joined(Circuit(["a"], [], [(2, 2)], [("y", 5)]), Circuit(["a"], [("q", 0, 6)], [(4, 3)], [("y", 4)]))
        self.assertEqual(([(0, 8)], [(2, 2), (4, 3)], [(7, 4)]), (
            joined.joint.latches, joined.joint.ands, joined.goals))

    def test_unlike_interfaces(self):
        y_only = Circuit(["a", "b"], [], [], [("y", 0)])
        for other in (
                Circuit(["a", "c"], [], [], [("y", 0)]), Circuit(["b", "a"], [], [], [("y", 0)]),
                Circuit(["a"], [], [], [("y", 0)]), Circuit(["a", "b", "c"], [], [], [("y", 0)]),
                Circuit(["a", "b"], [], [], [("z", 0)]), Circuit(["a", "b"], [], [], []),
                Circuit(["a", "b"], [], [], [("y", 0), ("z", 0)])):
            self.assert_error(UnlikeInterfaces, {}, Joined, y_only, other)
            self.assert_error(UnlikeInterfaces, {}, Joined, other, y_only)

    def test_another_order_of_outputs(self):
        one = Circuit([], [], [], [("y", 0), ("z", 1)])
        other = Circuit([], [], [], [("z", 0), ("y", 1)])
        self.assert_error(UnlikeInterfaces, {}, Joined, one, other)

    def test_latches_and_literals_do_not_matter(self):
        one = Circuit(["a"], [("q", 0, 2)], [], [("y", 4)])
        other = Circuit(["a"], [("r", 1, 4), ("s", 1, 0)], [(2, 2)], [("y", 2)])
        self.assertEqual([(4, 2)], Joined(one, other).goals)

    def test_circuits_stay_as_they_are(self):
        before = plain([LEFT, RIGHT])
        Joined(LEFT, RIGHT)
        self.assertEqual(before, plain([LEFT, RIGHT]))

    def test_values_of_joint_literals(self):
        chance = random.Random(3)
        for seed in range(10):
            left = random_circuit(seed, 3, 2, 10, 4)
            right = random_circuit(seed + 100, 3, 4, 7, 4)
            joined = Joined(left, right)
            states = [chance.randrange(2) for _ in range(2)], [chance.randrange(2) for _ in range(4)]
            row = [chance.randrange(2) for _ in range(3)]
            joint_values = node_values(joined.joint, states[0] + states[1], row)
            left_values = node_values(left.as_net(), states[0], row)
            right_values = node_values(right.as_net(), states[1], row)
            for literal in range(2 * len(left_values)):
                self.assertEqual(
                    value_of(left_values, literal), value_of(joint_values, joined.from_left(literal)))
            for literal in range(2 * len(right_values)):
                self.assertEqual(
                    value_of(right_values, literal), value_of(joint_values, joined.from_right(literal)))
            outputs = step(left, states[0], row)[0], step(right, states[1], row)[0]
            self.assertEqual(list(zip(*outputs)), [
                (value_of(joint_values, x), value_of(joint_values, y)) for x, y in joined.goals])
            starts = start_state(left) + start_state(right)
            self.assertEqual(starts, [start for start, _ in joined.joint.latches])
            nexts = step(left, states[0], row)[1] + step(right, states[1], row)[1]
            self.assertEqual(nexts, [value_of(joint_values, literal) for _, literal in joined.joint.latches])


if __name__ == "__main__":
    unittest.main()
