"""Promises [95] and [96]: places, and circuits in which one of them is stuck."""

import unittest

from helpers import SuregateTest, edge_circuits, plain, random_circuit, random_course

from suregate.errors import InvalidCourse
from suregate.graph.circuit import Circuit
from suregate.runs.plain import run
from suregate.stuck.places import first_difference, places_of, with_stuck
from suregate.stuck.trials import Trials

# All kinds of places, with the literals 0 and 1 at some of them.
CIRCUIT = Circuit(
    ["a"], [("p", 0, 7), ("q", 1, 0), ("r", 1, 1), ("s", 0, 2)], [(2, 0), (1, 5), (12, 12), (0, 1), (3, 15)],
    [("v", 1), ("w", 20), ("x", 0), ("y", 3)])


def slow_stuck(circuit, place, value):
    """Returns the circuit with a stuck place, made of its four lists."""
    kind, index = place
    ands = [list(pair) for pair in circuit.ands]
    latches = [list(latch) for latch in circuit.latches]
    outputs = [list(output) for output in circuit.outputs]
    {"left": ands, "right": ands, "next": latches, "output": outputs}[kind][index][
        {"left": 0, "right": 1, "next": 2, "output": 1}[kind]] = value
    return Circuit(
        circuit.inputs, [tuple(latch) for latch in latches], [tuple(pair) for pair in ands],
        [tuple(output) for output in outputs])


def slow_difference(circuit, other, course):
    """Returns the first cycle in which the outputs differ, or None."""
    for cycle, (one, two) in enumerate(zip(run(circuit, course), run(other, course))):
        if one != two:
            return cycle
    return None


class PlacesTest(SuregateTest):
    def test_order_and_constants(self):
        before = plain(CIRCUIT)
        self.assertEqual(
            [("left", 0), ("right", 1), ("left", 2), ("right", 2), ("left", 4), ("right", 4), ("next", 0), ("next", 3),
             ("output", 1), ("output", 3)],
            places_of(CIRCUIT))
        self.assertEqual(before, plain(CIRCUIT))

    def test_smallest_literals(self):
        circuit = Circuit(["a"], [("p", 0, 2), ("q", 0, 1)], [(2, 1), (0, 2)], [("x", 2), ("y", 1), ("z", 3)])
        self.assertEqual(
            [("left", 0), ("right", 1), ("next", 0), ("output", 0), ("output", 2)], places_of(circuit))

    def test_without_places(self):
        for circuit in (Circuit([], [], [], []), Circuit(["a"], [("q", 0, 1)], [(0, 1)], [("y", 0)])):
            self.assertEqual([], places_of(circuit))

    def test_number_of_places(self):
        for seed in range(10):
            circuit = random_circuit(seed)
            literals = [literal for pair in circuit.ands for literal in pair]
            literals += [latch[2] for latch in circuit.latches] + [output[1] for output in circuit.outputs]
            self.assertEqual(len([literal for literal in literals if literal > 1]), len(places_of(circuit)))

    def test_each_kind_stuck_at_both_values(self):
        before = plain(CIRCUIT)
        for value in (0, 1):
            stuck = with_stuck(CIRCUIT, ("left", 0), value)
            self.assertEqual([(value, 0)] + CIRCUIT.ands[1:], stuck.ands)
            stuck = with_stuck(CIRCUIT, ("right", 1), value)
            self.assertEqual([(2, 0), (1, value)] + CIRCUIT.ands[2:], stuck.ands)
            # Only this one occurrence of the literal is stuck.
            stuck = with_stuck(CIRCUIT, ("right", 2), value)
            self.assertEqual((12, value), stuck.ands[2])
            stuck = with_stuck(CIRCUIT, ("next", 3), value)
            self.assertEqual(CIRCUIT.latches[:3] + [("s", 0, value)], stuck.latches)
            stuck = with_stuck(CIRCUIT, ("output", 1), value)
            self.assertEqual([("v", 1), ("w", value), ("x", 0), ("y", 3)], stuck.outputs)
        self.assertEqual(before, plain(CIRCUIT))

    def test_stuck_by_definition(self):
        for circuit in edge_circuits() + [CIRCUIT, random_circuit(1)]:
            for place in places_of(circuit):
                for value in (0, 1):
                    before = plain([circuit, place])
                    self.assertEqual(slow_stuck(circuit, place, value), with_stuck(circuit, place, value))
                    self.assertEqual(before, plain([circuit, place]))


class FirstDifferenceTest(SuregateTest):
    def test_first_cycle(self):
        delay = Circuit(["a"], [("p", 0, 2), ("q", 0, 4)], [], [("y", 6)])
        stuck = with_stuck(delay, ("next", 1), 0)
        self.assertIsNone(first_difference(delay, stuck, []))
        self.assertIsNone(first_difference(delay, stuck, [[1], [1]]))
        self.assertIsNone(first_difference(delay, stuck, [[0]] * 30))
        self.assertEqual(2, first_difference(delay, stuck, [[1], [0], [0]]))
        self.assertEqual(5, first_difference(delay, stuck, [[0], [0], [0], [1], [1], [1], [1]]))
        self.assertEqual(0, first_difference(delay, with_stuck(delay, ("output", 0), 1), [[0]]))
        self.assertIsNone(first_difference(delay, delay, [[1]] * 1000))

    def test_any_output_counts_and_names_do_not(self):
        one = Circuit(["a", "b"], [], [], [("x", 2), ("y", 4), ("z", 0)])
        other = Circuit(["a", "b"], [("q", 0, 6)], [], [("u", 2), ("v", 5), ("w", 6)])
        self.assertEqual(0, first_difference(one, other, [[0, 0]]))
        other = Circuit(["a", "b"], [("q", 0, 3)], [], [("u", 2), ("v", 4), ("w", 6)])
        self.assertEqual(2, first_difference(one, other, [[1, 1], [0, 0], [1, 1]]))

    def test_by_definition(self):
        told = {}
        for seed in range(40):
            circuit = random_circuit(seed)
            course = random_course(seed, 3, 8)
            for place in places_of(circuit)[seed % 3::3]:
                other = with_stuck(circuit, place, seed % 2)
                before = plain([circuit, other, course])
                answer = first_difference(circuit, other, course)
                self.assertEqual(before, plain([circuit, other, course]))
                self.assertEqual(slow_difference(circuit, other, course), answer)
                told[answer] = told.get(answer, 0) + 1
        self.assertGreater(min(told[None], told[0], told[1], told[2]), 3)

    def test_invalid_courses(self):
        circuit = Circuit(["a", "b"], [], [], [("y", 2)])
        other = with_stuck(circuit, ("output", 0), 1)
        for row in ([], [0], [0, 1, 0], [0, 2], [-1, 0]):
            # Also if the outputs differ before.
            self.assert_error(InvalidCourse, {"index": 1}, first_difference, circuit, other, [[0, 0], row, [5, 5]])
        self.assertEqual(999, first_difference(circuit, other, [[1, 0]] * 999 + [[0, 0]]))
        self.assert_error(InvalidCourse, {"index": 1000}, first_difference, circuit, other, [[1, 0]] * 1001)


class TrialsTest(SuregateTest):
    def test_all_places_at_once(self):
        for circuit in edge_circuits() + [CIRCUIT] + [random_circuit(seed) for seed in range(12)]:
            trials = Trials(circuit)
            self.assertEqual([(place, value) for place in places_of(circuit) for value in (0, 1)], trials.stuck)
            for length in (0, 1, 7):
                course = random_course(length, len(circuit.inputs), length)
                expected = [
                    slow_difference(circuit, slow_stuck(circuit, place, value), course) for place, value in trials.stuck]
                self.assertEqual(expected, trials.first_cycles(course))


if __name__ == "__main__":
    unittest.main()
