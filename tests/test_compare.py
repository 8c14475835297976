"""Promises [67] to [72]: comparing two circuits."""

import unittest

from helpers import SuregateTest, plain, random_circuit, random_course
from joint_circuits import counter, delay, pairs_of_circuits, rounds, slow_explore, unlike_interfaces

from suregate.clauses.units import Units
from suregate.compare.compare import compare
from suregate.compare.facts import blocking_clauses
from suregate.errors import TooManyStates, UnlikeInterfaces
from suregate.frames.frames import in_frame, opening_clauses, same_clauses
from suregate.graph.builder import Builder
from suregate.graph.circuit import Circuit
from suregate.graph.joining import Joined
from suregate.judge.alike import fault_of_alike
from suregate.judge.certificate import AlikeCertificate
from suregate.judge.unlike import fault_of_unlike
from suregate.passes.balance import balance
from suregate.passes.refactor import refactor
from suregate.passes.structure import trim
from suregate.runs.plain import run
from suregate.sweep.sweep import sweep


def compared(left, right, most=1000):
    return compare(left, right, most=most)


def multiplier(width, turned):
    """Returns a circuit that multiplies two words, or the two words in turn."""
    builder = Builder(2 * width)
    words = [[2 + 2 * place for place in range(width)], [2 + 2 * width + 2 * place for place in range(width)]]
    one, two = words[::-1] if turned else words
    total = [0] * (2 * width)
    for low, factor in enumerate(one):
        carry = 0
        for high, other in enumerate(two):
            place = low + high
            term = builder.both(factor, other)
            either = builder.unlike(total[place], term)
            more = builder.either(builder.both(total[place], term), builder.both(either, carry))
            total[place] = builder.unlike(either, carry)
            carry = more
        total[low + width] = carry
    inputs = [f"i{place}" for place in range(2 * width)]
    return Circuit(inputs, [], builder.pairs, [(f"o{place}", literal) for place, literal in enumerate(total)])


class CompareTest(SuregateTest):
    def check(self, left, right):
        """Checks the answer for two circuits, and returns it."""
        before = plain([left, right])
        answer = compared(left, right)
        self.assertEqual(before, plain([left, right]))
        self.assertIs(tuple, answer.__class__)
        states, course = slow_explore(left, right, 1000)
        if course is None:
            self.check_alike(left, right, answer, states)
        else:
            self.check_unlike(left, right, answer, course)
        return answer

    def check_alike(self, left, right, answer, states):
        word, certificate = answer
        self.assertEqual("alike", word)
        self.assertIs(AlikeCertificate, certificate.__class__)
        self.assertIsNone(fault_of_alike(left, right, certificate))
        joined = Joined(left, right)
        self.assertEqual(
            blocking_clauses(states, joined.joint.first_latch, len(joined.joint.latches)), certificate.facts)
        self.assertEqual([], certificate.start_lines)
        for seed in range(3):
            told = random_course(seed, len(left.inputs), 10)
            self.assertEqual(run(left, told), run(right, told))

    def check_unlike(self, left, right, answer, expected):
        word, course, layers = answer
        self.assertEqual("unlike", word)
        self.assertEqual(expected, course)
        self.assertIsNone(fault_of_unlike(left, right, course, layers))
        self.assertEqual(len(course) - 1, len(layers))
        one, other = run(left, course), run(right, course)
        self.assertEqual(one[:-1], other[:-1])
        self.assertNotEqual(one[-1], other[-1])
        joined = Joined(left, right)
        net = joined.joint
        told = []
        for frame, lines in enumerate(layers):
            units = Units(opening_clauses(net, frame) + told)
            for line in lines:
                self.assertIs(tuple, line.__class__)
                self.assertTrue(all(0 <= literal < 2 * net.node_count * (frame + 1) for literal in line))
                self.assertTrue(units.follows(line))
                units.add_clause(line)
            for x, y in joined.goals:
                for clause in same_clauses(x, y):
                    self.assertTrue(units.follows(in_frame(net, clause, frame)))
            told += lines

    def test_some_circuits(self):
        lengths = {}
        for left, right in pairs_of_circuits():
            for one, other in ((left, right), (right, left)):
                answer = self.check(one, other)
                length = len(answer[1]) if answer[0] == "unlike" else 0
                lengths[length] = lengths.get(length, 0) + 1
        for length in range(5):
            self.assertGreater(lengths[length], 0)

    def test_a_circuit_and_itself(self):
        for seed in range(10):
            circuit = random_circuit(seed, 3, 3, 30, 3)
            self.assertEqual("alike", self.check(circuit, circuit)[0])

    def test_courses_of_one_row(self):
        answer = self.check(Circuit(["a"], [], [], [("y", 2)]), Circuit(["a"], [], [], [("y", 0)]))
        self.assertEqual(("unlike", [[1]], []), answer)
        answer = self.check(Circuit([], [], [], [("y", 1)]), Circuit([], [], [], [("y", 0)]))
        self.assertEqual(("unlike", [[]], []), answer)

    def test_courses_of_several_rows(self):
        for length in range(5):
            _, course, layers = self.check(delay(length), delay(length + 1))
            self.assertEqual(([[1]] + [[0]] * length, length), (course, len(layers)))

    def test_counters(self):
        for width, last in ((2, 2), (3, 7), (4, 13), (5, 31)):
            word, course, _ = self.check(counter(width, last), counter(width))
            self.assertEqual(("unlike", [[1]] * last + [[0]]), (word, course))
            self.assertEqual("alike", self.check(counter(width, last), counter(width, last))[0])
        self.assertEqual("unlike", self.check(counter(3, 5), counter(4, 5))[0])
        self.assertEqual("alike", self.check(counter(3, 3, 1), counter(3, 3, 1))[0])

    def test_counts_kept_in_two_ways(self):
        for count in (2, 3, 5, 6, 7, 11, 13):
            one, other = rounds(count, count // 2)
            self.assertEqual("alike", self.check(one, other)[0])
            _, further = rounds(count + 1, count // 2)
            word, course, _ = self.check(one, further)
            self.assertEqual(("unlike", count + count // 2 + 1), (word, len(course)))

    def test_nodes_that_are_rarely_true(self):
        # The sum of three inputs, if all others are 1, built in two ways, beside delays of two and three cycles.
        circuits = []
        for length in (2, 3):
            builder = Builder(16 + length)
            others = 1
            for literal in range(8, 34, 2):
                others = builder.both(others, literal)
            total = 0
            for literal in (2, 4, 6):
                total = builder.unlike(total, builder.both(literal, others) if length == 3 else literal)
            total = builder.both(total, others) if length == 2 else total
            latches = [(f"d{place}", 0, 32 + 2 * place) for place in range(length)]
            circuits.append(Circuit(
                [f"i{place}" for place in range(16)], latches, builder.pairs, [("y", total), ("z", 32 + 2 * length)]))
        word, course, layers = compared(*circuits)
        self.assertEqual(("unlike", [[0] * 15 + [1], [0] * 16, [0] * 16]), (word, course))
        self.assertIsNone(fault_of_unlike(*circuits, course, layers))
        one, other = [Circuit(told.inputs, [], [
            tuple(literal - 2 * len(told.latches) * (literal > 33) for literal in pair) for pair in told.ands], [
                ("y", told.outputs[0][1] - 2 * len(told.latches))]) for told in circuits]
        word, certificate = compared(one, other)
        self.assertEqual("alike", word)
        self.assertIsNone(fault_of_alike(one, other, certificate))

    def test_results_of_passes(self):
        for seed in range(12):
            circuit = random_circuit(seed, 3, 3, 30, 3)
            for change in (sweep, balance, refactor, trim):
                self.assertEqual("alike", self.check(circuit, change(circuit)[0])[0])

    def test_combinational_circuits_built_in_two_ways(self):
        for width in (2, 4):
            self.assertEqual("alike", self.check(multiplier(width, False), multiplier(width, True))[0])
        one = multiplier(8, False)
        word, certificate = compared(one, one, 1)
        self.assertEqual("alike", word)
        self.assertIsNone(fault_of_alike(one, one, certificate))
        self.assertEqual([], certificate.facts)

    def test_a_large_product_behind_a_latch(self):
        # One latch stays at 1, the other one goes back to 0. The products are the same, which only the structure tells soon.
        one = multiplier(8, False)
        circuits = []
        for following in (1, 35):
            ands = [tuple(literal + 2 * (literal // 2 > 16) for literal in pair) for pair in one.ands]
            outputs = [(name, literal + 2 * (literal // 2 > 16)) for name, literal in one.outputs]
            circuits.append(Circuit(one.inputs, [("q", 0, following)], ands, outputs + [("z", 34)]))
        word, course, layers = compared(*circuits, 9)
        self.assertEqual(("unlike", [[0] * 16] * 3, 2), (word, course, len(layers)))
        self.assertIsNone(fault_of_unlike(*circuits, course, layers))

    def test_too_many_states(self):
        left, right = counter(3, 5), counter(3, 5)
        before = plain([left, right])
        for most in (1, 2, 7):
            self.assert_error(TooManyStates, {}, compared, left, right, most)
        self.assertEqual(before, plain([left, right]))
        self.assertEqual("alike", compared(left, right, 8)[0])
        self.assertEqual("unlike", compared(counter(3, 2), counter(3), 3)[0])
        self.assert_error(TooManyStates, {}, compared, counter(3, 2), counter(3), 2)

    def test_unlike_interfaces(self):
        circuit, others = unlike_interfaces()
        self.assertEqual("alike", compared(circuit, circuit)[0])
        for other in others:
            before = plain([circuit, other])
            self.assert_error(UnlikeInterfaces, {}, compared, circuit, other)
            self.assert_error(UnlikeInterfaces, {}, compared, other, circuit, 1)
            self.assertEqual(before, plain([circuit, other]))

    def test_most_is_passed_by_keyword(self):
        with self.assertRaises(TypeError):
            compare(delay(1), delay(1), 5)

    def test_lists_are_new(self):
        left, right = delay(2), delay(3)
        _, course, layers = compared(left, right)
        expected = plain([course, layers])
        layers[0].append(())
        layers.clear()
        course[0].clear()
        course.clear()
        _, course, layers = compared(left, right)
        self.assertEqual(expected, plain([course, layers]))


if __name__ == "__main__":
    unittest.main()
