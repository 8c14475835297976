"""Promises [67] to [69]: the joint states that are met, and the course that tells circuits apart."""

import unittest

from helpers import SuregateTest, plain, random_circuit
from joint_circuits import counter, delay, first_course, pairs_of_circuits, slow_explore

from suregate.compare.reach import explore, next_states, rows_that_differ
from suregate.errors import TooManyStates
from suregate.graph.circuit import Circuit
from suregate.graph.joining import Joined
from suregate.runs.packed import row_of
from suregate.runs.plain import node_values, value_of


class StepsTest(unittest.TestCase):
    def check(self, joined, state):
        """Checks the rows that differ and the next states of a state, row by row."""
        net = joined.joint
        before = plain([joined, state])
        word = rows_that_differ(joined, state)
        pairs = next_states(joined, state)
        self.assertEqual(before, plain([joined, state]))
        expected_word = 0
        expected_states = {}
        for number in range(1 << net.input_count):
            values = node_values(net, list(state), row_of(net.input_count, number))
            if any(value_of(values, x) != value_of(values, y) for x, y in joined.goals):
                expected_word += 1 << number
            following = tuple(value_of(values, literal) for _, literal in net.latches)
            expected_states.setdefault(following, number)
        self.assertEqual(expected_word, word)
        self.assertEqual(list(expected_states.items()), pairs)
        self.assertTrue(pairs.__class__ is list and all(pair.__class__ is tuple for pair in pairs))
        self.assertTrue(all(following.__class__ is tuple for following, _ in pairs))

    def test_by_hand(self):
        # The left circuit keeps whether a was ever 1, the right one takes b; nodes: 1 a, 2 b, 3 p, 4 q.
        left = Circuit(["a", "b"], [("p", 0, 9)], [(3, 7)], [("y", 6)])
        right = Circuit(["a", "b"], [("q", 0, 4)], [], [("y", 6)])
        joined = Joined(left, right)
        self.assertEqual(0, rows_that_differ(joined, [0, 0]))
        self.assertEqual(15, rows_that_differ(joined, [1, 0]))
        self.assertEqual([((0, 0), 0), ((0, 1), 1), ((1, 0), 2), ((1, 1), 3)], next_states(joined, [0, 0]))
        self.assertEqual([((1, 0), 0), ((1, 1), 1)], next_states(joined, [1, 0]))
        # Row number 1 is [0, 1], and row number 2 is [1, 0].
        joined = Joined(
            Circuit(["a", "b"], [], [], [("y", 2)]), Circuit(["a", "b"], [], [(2, 5)], [("y", 6)]))
        self.assertEqual(0b1000, rows_that_differ(joined, []))
        joined = Joined(
            Circuit(["a", "b"], [], [], [("y", 2)]), Circuit(["a", "b"], [], [(2, 4)], [("y", 6)]))
        self.assertEqual(0b0100, rows_that_differ(joined, []))

    def test_some_circuits(self):
        for left, right in pairs_of_circuits():
            joined = Joined(left, right)
            count = len(joined.joint.latches)
            for number in range(min(1 << count, 20)):
                self.check(joined, row_of(count, number))
                self.check(joined, tuple(row_of(count, number)))

    def test_all_16_inputs(self):
        inputs = [f"i{place}" for place in range(16)]
        left = Circuit(inputs, [(f"p{place}", 0, 2 + 2 * place) for place in range(5)], [], [("y", 34)])
        right = Circuit(inputs, [("q", 0, 37)], [(2, 32)], [("y", 35)])
        joined = Joined(left, right)
        self.check(joined, [0, 0, 0, 0, 0, 0])
        self.check(joined, [1, 0, 1, 0, 0, 0])
        left = Circuit(inputs, [(f"p{place}", 0, 2 + 2 * place) for place in range(16)], [], [])
        pairs = next_states(Joined(left, left), [0] * 32)
        self.assertEqual([(tuple(2 * row_of(16, number)), number) for number in range(1 << 16)], pairs)


class ExploreTest(SuregateTest):
    def check(self, left, right, most=1000):
        """Checks the states that are met and the course; returns the number of states."""
        joined = Joined(left, right)
        before = plain(joined)
        answer = explore(joined, most)
        self.assertEqual(before, plain(joined))
        self.assertIs(tuple, answer.__class__)
        self.assertEqual(slow_explore(left, right, most), answer)
        states, course = answer
        self.assertTrue(all(state.__class__ is tuple for state in states))
        if course is not None:
            if len(course) * len(left.inputs) < 9:
                self.assertEqual(first_course(left, right, len(course)), course)
        elif len(states) < 10 and len(left.inputs) < 2:
            self.assertIsNone(first_course(left, right, 6))
        return len(states)

    def test_some_circuits(self):
        alike = 0
        for left, right in pairs_of_circuits():
            self.check(left, right)
            self.check(right, left)
            alike += explore(Joined(left, right), 1000)[1] is None
        self.assertGreater(alike, 10)
        self.assertLess(alike, len(pairs_of_circuits()) - 10)

    def test_circuits_without_inputs(self):
        # Two rings of latches; a 1 goes round in three and in two cycles.
        left = Circuit([], [("p0", 1, 6), ("p1", 0, 2), ("p2", 0, 4)], [], [("y", 2)])
        right = Circuit([], [("q0", 1, 4), ("q1", 0, 2)], [], [("y", 2)])
        self.check(left, right)
        self.assertEqual(
            ([(1, 0, 0, 1, 0), (0, 1, 0, 0, 1), (0, 0, 1, 1, 0)], [[], [], []]), explore(Joined(left, right), 10))
        self.assertEqual(6, self.check(
            Circuit([], left.latches, [], [("y", 0)]), Circuit([], right.latches, [], [("y", 0)])))

    def test_circuits_without_latches(self):
        left = Circuit(["a", "b"], [], [(2, 4)], [("y", 6)])
        self.assertEqual(([()], None), explore(Joined(left, left), 1))
        right = Circuit(["a", "b"], [], [(2, 5)], [("y", 6)])
        self.assertEqual(([()], [[1, 0]]), explore(Joined(left, right), 1))

    def test_circuits_without_outputs(self):
        left = counter(2)
        left = Circuit(left.inputs, left.latches, left.ands, [])
        self.assertEqual(4, self.check(left, Circuit(["go"], [], [], [])))

    def test_the_order_in_which_states_are_met(self):
        # The state takes both inputs; then it stays.
        left = Circuit(["a", "b"], [("p", 1, 4), ("q", 1, 2)], [], [])
        states, course = explore(Joined(left, Circuit(["a", "b"], [], [], [])), 4)
        self.assertEqual([(1, 1), (0, 0), (1, 0), (0, 1)], states)
        self.assertIsNone(course)

    def test_the_first_of_the_shortest_courses(self):
        # The outputs differ behind the rows [0, 1] and [1, 0], whichever comes first, and nowhere else.
        left = Circuit(["a", "b"], [("q", 0, 13)], [(2, 5), (3, 4), (9, 11)], [("y", 6)])
        right = Circuit(["a", "b"], [], [], [("y", 0)])
        self.assertEqual([[0, 1], [0, 0]], explore(Joined(left, right), 9)[1])
        self.check(left, right)
        # All rows lead to a difference in the next cycle but the first two.
        left = Circuit(["a", "b"], [("q", 0, 2)], [(6, 4)], [("y", 8)])
        self.assertEqual([[1, 0], [0, 1]], explore(Joined(left, right), 9)[1])
        self.check(left, right)

    def test_too_many_states(self):
        for left, right, count in (
                (counter(3, 5), counter(3, 5), 8), (delay(3), delay(3), 8), (counter(2), counter(3), 8),
                (delay(1), delay(1), 2), (delay(0), delay(0), 1)):
            self.assertEqual(count, self.check(left, right, count))
            for most in range(1, count):
                joined = Joined(left, right)
                before = plain(joined)
                self.assert_error(TooManyStates, {}, explore, joined, most)
                self.assertEqual(before, plain(joined))
                self.assertIsNone(slow_explore(left, right, most))

    def test_a_course_is_found_before_too_many_states(self):
        # The outputs differ in the third cycle; then three states have been met, and a fourth one would be.
        left, right = counter(3, 2), counter(3)
        for most in (3, 4, 9):
            self.check(left, right, most)
        for most in (1, 2):
            self.assert_error(TooManyStates, {}, explore, Joined(left, right), most)
            self.assertIsNone(slow_explore(left, right, most))
        # In the start state nothing needs to be met.
        self.assertEqual(([(0, 0)], [[1, 0]]), explore(Joined(
            Circuit(["a", "b"], [("p", 0, 2), ("q", 0, 4)], [], [("y", 2)]),
            Circuit(["a", "b"], [], [], [("y", 0)])), 1))

    def test_many_next_states(self):
        inputs = [f"i{place}" for place in range(16)]
        left = Circuit(inputs, [(f"p{place}", 0, 2 + 2 * place) for place in range(16)], [], [])
        joined = Joined(left, left)
        for most in (1, 1000):
            self.assert_error(TooManyStates, {}, explore, joined, most)
        left = Circuit(inputs, [(f"p{place}", 1, 2 + 2 * place) for place in range(9)], [], [])
        joined = Joined(left, left)
        self.assertEqual(512, len(explore(joined, 512)[0]))
        self.assert_error(TooManyStates, {}, explore, joined, 511)

    def test_lists_are_new(self):
        joined = Joined(counter(2, 3), counter(2))
        states, course = explore(joined, 9)
        expected = plain([states, course])
        for row in course:
            row.clear()
        states.clear()
        course.clear()
        self.assertEqual(expected, plain(list(explore(joined, 9))))
        next_states(joined, [0] * 4).clear()
        self.assertEqual(2, len(next_states(joined, [0] * 4)))

    def test_larger_circuits(self):
        for seed in range(6):
            self.check(random_circuit(seed, 4, 4, 40, 2), random_circuit(seed + 1, 4, 3, 40, 2))


if __name__ == "__main__":
    unittest.main()
