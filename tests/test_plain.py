"""Promises [13], [14] and [15]: runs of a circuit."""

import inspect
import unittest

from helpers import SuregateTest, plain, random_circuit, random_course, scramble

from suregate.errors import InvalidCourse
from suregate.graph.circuit import Circuit
from suregate.graph.net import Net
from suregate.runs.plain import cycles, node_values, run, start_state, state_after, step, value_of

# Two inputs, a counter of two bits that counts up while a is 1 and b is 0; nodes: 1 a, 2 b, 3 low, 4 high.
COUNTER = Circuit(
    ["a", "b"], [("low", 0, 16), ("high", 1, 24)],
    [(2, 5), (6, 10), (7, 11), (13, 15), (6, 10), (8, 18), (9, 19), (21, 23)],
    [("y", 8), ("go", 10), ("one", 1)])


def slow_run(circuit, course):
    """Returns the outputs and the states of all cycles, by recursion over the nodes."""
    first_latch = 1 + len(circuit.inputs)
    first_and = first_latch + len(circuit.latches)

    def value(literal, state, row):
        node = literal // 2
        if literal % 2:
            return 1 - value(literal - 1, state, row)
        if node == 0:
            return 0
        if node < first_latch:
            return row[node - 1]
        if node < first_and:
            return state[node - first_latch]
        return min(value(part, state, row) for part in circuit.ands[node - first_and])

    state = [start for _, start, _ in circuit.latches]
    outputs, states = [], [state]
    for row in course:
        outputs.append([value(literal, state, row) for _, literal in circuit.outputs])
        state = [value(literal, state, row) for _, _, literal in circuit.latches]
        states.append(state)
    return outputs, states


class ValuesTest(unittest.TestCase):
    def test_value_of(self):
        self.assertEqual([0, 1, 1, 0, 0, 1], [value_of([0, 1, 0], literal) for literal in range(6)])

    def test_node_values(self):
        net = Net(2, [(0, 0), (0, 0)], [(2, 7), (3, 6), (11, 13), (1, 8)])
        self.assertEqual([0, 1, 0, 0, 1, 1, 0, 0, 1], node_values(net, [0, 1], [1, 0]))
        self.assertEqual([0, 0, 0, 1, 0, 0, 1, 0, 0], node_values(net, [1, 0], [0, 0]))

    def test_node_values_of_empty_lists(self):
        self.assertEqual([0], node_values(Net(0, [], []), [], []))
        self.assertEqual([0, 1], node_values(Net(0, [], [(1, 1)]), [], []))
        self.assertEqual([0, 1], node_values(Net(1, [], []), [], [1]))
        self.assertEqual([0, 1], node_values(Net(0, [(0, 0)], []), [1], []))

    def test_all_cases_of_an_and(self):
        for left, right in ((2, 4), (2, 5), (3, 4), (3, 5)):
            for x in (0, 1):
                for y in (0, 1):
                    value = node_values(Net(2, [], [(left, right)]), [], [x, y])[3]
                    self.assertEqual((x ^ left % 2) * (y ^ right % 2), value)

    def test_start_state(self):
        self.assertEqual([0, 1], start_state(COUNTER))
        self.assertEqual([], start_state(Circuit(["a"], [], [], [])))


class RunTest(SuregateTest):
    def test_example(self):
        self.assertEqual([[0], [1], [1]], run(Circuit(["a"], [("q", 0, 6)], [(2, 5)], [("y", 7)]), [[1], [1], [0]]))

    def test_step(self):
        circuit = Circuit(["a"], [("p", 0, 3), ("q", 1, 4)], [(2, 7)], [("x", 8), ("y", 7)])
        self.assertEqual(([1, 1], [0, 1]), step(circuit, [1, 0], [1]))
        self.assertEqual(([0, 0], [1, 0]), step(circuit, [0, 1], [0]))
        self.assertEqual(([], []), step(Circuit([], [], [], []), [], []))

    def test_runs_are_those_of_the_slow_way(self):
        for seed in range(20):
            circuit = random_circuit(seed, seed % 4, seed % 3, 12, 3)
            course = random_course(seed, seed % 4, 12)
            outputs, states = slow_run(circuit, course)
            self.assertEqual(outputs, run(circuit, course))
            self.assertEqual(list(zip(outputs, states[1:])), list(cycles(circuit, course)))
            for length, state in enumerate(states):
                self.assertEqual(state, state_after(circuit, course[:length]))

    def test_counter(self):
        outputs = run(COUNTER, [[1, 0]] * 5)
        self.assertEqual([1, 1, 0, 0, 1], [row[0] for row in outputs])
        self.assertEqual([[1, 0, 1], [1, 0, 1]], run(COUNTER, [[0, 0], [1, 1]]))

    def test_latches_start_with_their_start_values(self):
        circuit = Circuit([], [("p", 1, 1), ("q", 0, 1)], [], [("x", 2), ("y", 4)])
        self.assertEqual([[1, 0], [1, 1]], run(circuit, [[], []]))

    def test_empty_course(self):
        self.assertEqual([], run(COUNTER, []))
        self.assertEqual([0, 1], state_after(COUNTER, []))
        self.assertEqual([], list(cycles(COUNTER, [])))

    def test_circuits_without_inputs_or_latches(self):
        self.assertEqual([[0], [1], [0]], run(Circuit([], [("q", 0, 3)], [], [("y", 2)]), [[], [], []]))
        self.assertEqual([[1], [0]], run(Circuit(["a"], [], [], [("y", 3)]), [[0], [1]]))
        self.assertEqual([[], []], run(Circuit([], [], [], []), [[], []]))
        self.assertEqual([], state_after(Circuit(["a"], [], [], []), [[1]]))

    def test_cycles_is_a_generator(self):
        self.assertTrue(inspect.isgeneratorfunction(cycles))
        first, second = cycles(COUNTER, [[1, 0], [1, 0]])
        self.assertEqual(([1, 1, 1], [1, 1]), first)
        self.assertEqual(([1, 1, 1], [0, 0]), second)
        self.assertIs(tuple, first.__class__)

    def test_cycles_does_not_check_the_course(self):
        self.assertEqual(1005, len(list(cycles(COUNTER, [[0, 0]] * 1005))))

    def test_changed_lists_of_cycles_change_no_later_cycle(self):
        course = random_course(1, 2, 10)
        expected = list(cycles(COUNTER, course))
        found = []
        for pair in cycles(COUNTER, course):
            found.append(plain(pair))
            scramble(pair)
        self.assertEqual(expected, found)

    def test_courses_stay_as_they_are(self):
        course = random_course(2, 2, 10)
        before = plain(course)
        for outputs in run(COUNTER, course):
            scramble(outputs)
        scramble(state_after(COUNTER, course))
        self.assertEqual(before, course)

    def test_states_and_rows_stay_as_they_are(self):
        state, row = [1, 0], [1, 0]
        scramble(step(COUNTER, state, row))
        scramble(node_values(COUNTER.as_net(), state, row))
        scramble(start_state(COUNTER))
        self.assertEqual(([1, 0], [1, 0]), (state, row))
        self.assertEqual([0, 1], start_state(COUNTER))


class InvalidCourseTest(SuregateTest):
    def refused(self, index, circuit, course):
        for function in (run, state_after):
            self.assert_error(InvalidCourse, {"index": index}, function, circuit, course)

    def test_longest_course(self):
        circuit = Circuit(["a"], [("q", 0, 5)], [], [("y", 4)])
        course = [[1]] * 1000
        self.assertEqual(1000, len(run(circuit, course)))
        self.assertEqual([0], state_after(circuit, course))
        self.refused(1000, circuit, course + [[1]])
        self.refused(1000, circuit, course + [[1]] * 7)
        self.refused(1000, circuit, course + [[2]])

    def test_long_courses_without_inputs(self):
        circuit = Circuit([], [], [], [])
        self.assertEqual([[]] * 1000, run(circuit, [[]] * 1000))
        self.refused(1000, circuit, [[]] * 1001)

    def test_lengths_of_rows(self):
        for wrong in ([], [0], [0, 0, 0]):
            self.refused(0, COUNTER, [wrong])
            self.refused(2, COUNTER, [[0, 0], [1, 1], wrong, [0, 0]])
        self.refused(1, Circuit([], [], [], []), [[], [0]])

    def test_elements_of_rows(self):
        for wrong in (-1, 2, 7):
            self.refused(1, COUNTER, [[0, 0], [0, wrong]])
            self.refused(1, COUNTER, [[0, 0], [wrong, 0]])

    def test_the_first_wrong_row_is_told(self):
        self.refused(1, COUNTER, [[0, 0], [0, 2], [0], [0, 0, 0]])
        self.refused(1, COUNTER, [[0, 0], [0], [0, 2]])
        self.refused(999, COUNTER, [[0, 0]] * 999 + [[0]] + [[0, 0]] * 3)


if __name__ == "__main__":
    unittest.main()
