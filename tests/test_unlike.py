"""Promise [73]: the judge of courses that tell circuits apart, and of the layers."""

import random
import unittest

from helpers import plain
from joint_circuits import counter, delay, pairs_of_circuits, unlike_interfaces

from suregate.clauses.units import Units
from suregate.compare.compare import compare
from suregate.frames.frames import in_frame, opening_clauses, same_clauses
from suregate.graph.builder import Builder
from suregate.graph.circuit import Circuit
from suregate.graph.joining import Joined
from suregate.judge.unlike import fault_of_unlike
from suregate.runs.plain import run


def slow_fault(left, right, course, layers):
    """The fault of a course and layers for circuits with the same interface, as [73] tells it."""
    for place, row in enumerate(course):
        if len(row) != len(left.inputs) or any(bit not in (0, 1) for bit in row):
            return "course", place
    if not course:
        return "course", 0
    one, other = run(left, course), run(right, course)
    for place in range(len(course) - 1):
        if one[place] != other[place]:
            return "outputs", place
    if one[-1] == other[-1]:
        return "outputs", len(course) - 1
    if len(layers) != len(course) - 1:
        return "layers", len(layers)
    joined = Joined(left, right)
    net = joined.joint
    told = []
    for frame, lines in enumerate(layers):
        units = Units(opening_clauses(net, frame) + told)
        for line in lines:
            if any(not 0 <= literal < 2 * net.node_count * (frame + 1) for literal in line):
                return "lines", frame
            if not units.follows(line):
                return "lines", frame
            units.add_clause(line)
        for x, y in joined.goals:
            for clause in same_clauses(x, y):
                if not units.follows(in_frame(net, clause, frame)):
                    return "goals", frame
        told += lines
    return None


# Two delays by a different number of cycles; joint nodes: 1 a, 2 and 3 the left latches, 4 to 6 the right ones.
LEFT, RIGHT = delay(2), delay(3)
COURSE = [[1], [0], [0]]
LAYERS = [[], []]


def cornered():
    """Returns circuits that differ in the third cycle, whose goals need lines, with their course and layers."""
    circuits = []
    for length, turn in ((2, 1), (3, -1)):
        builder = Builder(3 + length)
        sum_of_all = 0
        for literal in (2, 4, 6)[::turn]:
            sum_of_all = builder.unlike(sum_of_all, literal)
        latches = [(f"d{place}", 0, 6 + 2 * place) for place in range(length)]
        circuits.append(Circuit(
            ["a", "b", "c"], latches, builder.pairs, [("y", 6 + 2 * length), ("z", sum_of_all)]))
    _, course, layers = compare(*circuits, most=100)
    return *circuits, course, layers


class UnlikeTest(unittest.TestCase):
    def check(self, expected, left, right, course, layers):
        before = plain([left, right, course, layers])
        self.assertEqual(expected, fault_of_unlike(left, right, course, layers))
        self.assertEqual(before, plain([left, right, course, layers]))

    def test_courses_and_layers_that_are_accepted(self):
        self.check(None, LEFT, RIGHT, COURSE, LAYERS)
        self.check(None, LEFT, RIGHT, [[1], [1], [1]], LAYERS)
        self.check(None, Circuit(["a"], [], [], [("y", 2)]), Circuit(["a"], [], [], [("y", 0)]), [[1]], [])
        left, right, course, layers = cornered()
        self.check(None, left, right, course, layers)

    def test_interfaces(self):
        circuit, others = unlike_interfaces()
        for other in others:
            self.check(("interfaces", 0), circuit, other, [[0, 0]], [])
            self.check(("interfaces", 0), other, circuit, [], [[]])
            self.check(("interfaces", 0), other, circuit, [[7]], [[]])
        # Names and starts of latches do not belong to the interface.
        self.check(("outputs", 0), circuit, Circuit(["a", "b"], [], [], [("y", 4), ("z", 2)]), [[0, 0]], [])

    def test_rows(self):
        for row in ([], [0, 0], [2], [-1], [0, 1, 0]):
            for place in range(3):
                course = [list(told) for told in COURSE]
                course[place] = row
                self.check(("course", place), LEFT, RIGHT, course, LAYERS)
            self.check(("course", 1), LEFT, RIGHT, [[0], row, row], [])
        self.check(("course", 0), LEFT, RIGHT, [], [])
        self.check(("course", 0), LEFT, RIGHT, [], [[], []])
        circuit = Circuit([], [], [], [("y", 0)])
        other = Circuit([], [], [], [("y", 1)])
        self.check(None, circuit, other, [[]], [])
        self.check(("course", 0), circuit, other, [[0]], [])
        self.check(("course", 0), circuit, other, [], [])

    def test_rows_that_are_no_lists(self):
        self.check(("course", 1), LEFT, RIGHT, [[1], (0,), [0]], LAYERS)
        self.check(("course", 2), LEFT, RIGHT, [[1], [0], None], LAYERS)
        self.check(("course", 0), LEFT, RIGHT, [["1"], [0], [0]], LAYERS)

    def test_outputs(self):
        # They differ in the third cycle already.
        self.check(("outputs", 2), LEFT, RIGHT, [[1], [0], [0], [0]], LAYERS)
        self.check(("outputs", 2), LEFT, RIGHT, [[1], [0], [0], [0], [1]], [[()]])
        # They do not differ in the last cycle, or not at all.
        self.check(("outputs", 2), LEFT, RIGHT, [[0], [0], [0]], LAYERS)
        self.check(("outputs", 1), LEFT, RIGHT, [[1], [0]], LAYERS)
        self.check(("outputs", 0), LEFT, LEFT, [[1]], [])
        self.check(("outputs", 3), LEFT, LEFT, [[1], [0], [1], [0]], [[]])
        # The first difference is told, if there are several.
        self.check(("outputs", 2), LEFT, RIGHT, [[1], [0], [1], [0], [1]], [])

    def test_one_of_several_outputs(self):
        left = Circuit(["a"], [("q", 0, 2)], [], [("y", 4), ("z", 1)])
        right = Circuit(["a"], [("q", 0, 2)], [], [("y", 4), ("z", 5)])
        self.check(None, left, right, [[1], [0]], [[]])
        self.check(("outputs", 0), left, right, [[0]], [])

    def test_layers(self):
        for count in (0, 1, 3, 4):
            self.check(("layers", count), LEFT, RIGHT, COURSE, [[]] * count)
        self.check(("layers", 3), LEFT, RIGHT, COURSE, [[()], [], [(0,)]])

    def test_lines(self):
        count = 7
        # In each layer: lines that follow, and a line that does not, or that has a literal of a later frame.
        good = [(1,), (0, 1), (5,), (13,), (2, 3)]
        later = [(5 + 2 * count, 7 + 2 * count), (2 * count + 1,)]
        self.check(None, LEFT, RIGHT, COURSE, [good, []])
        self.check(None, LEFT, RIGHT, COURSE, [[], good + later])
        for bad in ((0,), (), (2,), (3,), (4, 6, 8), (-1,), (-1, 1), (1, 2 * count), (1, 99)):
            self.check(("lines", 0), LEFT, RIGHT, COURSE, [[bad], []])
            self.check(("lines", 0), LEFT, RIGHT, COURSE, [[*good, bad], [(0,)]])
            if bad != (1, 2 * count):
                self.check(("lines", 1), LEFT, RIGHT, COURSE, [good, [*good, bad]])
        for line in later:
            self.check(("lines", 0), LEFT, RIGHT, COURSE, [[line], []])
        self.check(None, LEFT, RIGHT, COURSE, [[], [(1, 4 * count - 1)]])
        self.check(("lines", 1), LEFT, RIGHT, COURSE, [[], [(1, 4 * count)]])
        self.check(None, LEFT, RIGHT, COURSE, [[(1, 2 * count - 1)], []])

    def test_lines_of_layers_before_count(self):
        left, right, course, layers = cornered()
        joined = Joined(left, right)
        self.check(None, left, right, course, layers)
        self.check(None, left, right, course, [layers[0], layers[0] + layers[1]])
        # The clauses of the goals of frame 0 follow only behind the lines of layer 0.
        goal_clauses = [clause for x, y in joined.goals for clause in same_clauses(x, y)]
        self.check(None, left, right, course, [layers[0], goal_clauses + layers[1]])
        self.check(("lines", 0), left, right, course, [goal_clauses + layers[0], layers[1]])
        # The lines of a layer count for those behind them only.
        for place in range(1, len(layers[1])):
            turned = layers[1][place:] + layers[1][:place]
            self.check(slow_fault(left, right, course, [layers[0], turned]), left, right, course, [layers[0], turned])
        self.check(("lines", 1), left, right, course, [layers[0], layers[1][-1:]])

    def test_goals(self):
        left, right, course, layers = cornered()
        self.check(("goals", 1), left, right, course, [layers[0], []])
        self.check(("goals", 0), left, right, course, [[], layers[0] + layers[1]])
        self.check(("goals", 0), left, right, course, [[], []])

    def test_each_clause_of_each_goal_counts(self):
        left, right, course, layers = cornered()
        joined = Joined(left, right)
        told = set()
        for outputs in ([0, 1], [1, 0]):
            one, other = [
                Circuit(circuit.inputs, circuit.latches, circuit.ands, [circuit.outputs[place] for place in outputs])
                for circuit in (left, right)]
            for mark in (0, 1):
                # With the outputs of both complemented, the other clause of the goal comes first.
                one.outputs[:] = [(name, literal ^ mark) for name, literal in one.outputs]
                other.outputs[:] = [(name, literal ^ mark) for name, literal in other.outputs]
                for count in range(len(layers[0])):
                    units = Units(opening_clauses(joined.joint, 0) + layers[0][:count])
                    follows = [units.follows(clause) for x, y in joined.goals for clause in same_clauses(x, y)]
                    told.add(tuple(follows))
                    expected = ("goals", 0) if not all(follows) else ("goals", 1)
                    self.check(expected, one, other, course, [layers[0][:count], []])
        self.assertTrue(any(sum(follows) == 3 for follows in told))

    def test_goals_of_later_frames(self):
        # Without lines nothing tells that the counters do not show their last number.
        left, right = counter(3, 6), counter(3)
        _, course, layers = compare(left, right, most=100)
        self.check(None, left, right, course, layers)
        told = {}
        for place in range(len(layers)):
            fault = fault_of_unlike(left, right, course, layers[:place] + [[]] + layers[place + 1:])
            told[place] = fault
            self.assertTrue(fault is None or fault[1] >= place)
        self.assertIn(("goals", 5), told.values())

    def test_changed_lines(self):
        chance = random.Random(1)
        faults = {}
        pairs = pairs_of_circuits() + [(counter(2, 3), counter(2)), cornered()[:2]]
        for left, right in pairs:
            answer = compare(left, right, most=1000)
            if answer[0] == "alike" or not answer[2]:
                continue
            _, course, layers = answer
            self.check(slow_fault(left, right, course, layers), left, right, course, layers)
            for _ in range(12):
                place = chance.randrange(len(layers))
                lines = list(layers[place])
                if lines and chance.random() < 0.6:
                    at = chance.randrange(len(lines))
                    lines[at] = lines[at][1:] if chance.random() < 0.5 else lines[at][:-1] + (chance.randrange(40),)
                elif lines:
                    del lines[chance.randrange(len(lines)):]
                else:
                    lines.append((chance.randrange(40), chance.randrange(40)))
                told = layers[:place] + [lines] + layers[place + 1:]
                fault = slow_fault(left, right, course, told)
                faults[fault and fault[0]] = faults.get(fault and fault[0], 0) + 1
                self.check(fault, left, right, course, told)
        for part in (None, "lines", "goals"):
            self.assertGreater(faults[part], 3)

    def test_the_first_fault_is_told(self):
        circuit, others = unlike_interfaces()
        self.check(("interfaces", 0), circuit, others[0], [], [])
        self.check(("course", 1), LEFT, RIGHT, [[1], [5]], [[(0,)]])
        self.check(("outputs", 1), LEFT, RIGHT, [[1], [0]], [[(0,)], [(0,)]])
        self.check(("layers", 1), LEFT, RIGHT, COURSE, [[(0,)]])
        self.check(("lines", 0), LEFT, RIGHT, COURSE, [[(0,)], [(0,)]])
        left, right, course, layers = cornered()
        self.check(("goals", 0), left, right, course, [[], [(0,)]])
        self.check(("lines", 1), left, right, course, [layers[0], [(0,)]])
        self.check(("lines", 0), left, right, course, [[(0,)], []])

    def test_long_courses(self):
        left = Circuit(["a"], [], [], [("y", 2)])
        right = Circuit(["a"], [], [(2, 2)], [("y", 4)])
        self.check(("outputs", 999), left, right, [[1]] * 1000, [])
        other = Circuit(["a"], [], [], [("y", 0)])
        self.check(("outputs", 998), left, other, [[0]] * 998 + [[1], [1]], [])
        self.check(("goals", 0), left, other, [[0]] * 999 + [[1]], [[]] * 999)


if __name__ == "__main__":
    unittest.main()
