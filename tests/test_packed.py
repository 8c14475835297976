"""Promises [16] and [17]: many cases at once."""

import itertools
import random
import unittest

from helpers import plain, random_circuit, random_course

from suregate.graph.circuit import Circuit
from suregate.graph.net import Net
from suregate.runs.packed import all_rows, mask_of, packed_run, packed_values, row_of, word_of
from suregate.runs.plain import node_values, run


class WordsTest(unittest.TestCase):
    def test_mask_of(self):
        self.assertEqual([0, 1, 3, 7, 255, 2 ** 100 - 1], [mask_of(count) for count in (0, 1, 2, 3, 8, 100)])

    def test_word_of(self):
        words = [0, 5, 7]
        self.assertEqual([0, 7, 5, 2, 7, 0], [word_of(words, literal, 7) for literal in range(6)])
        self.assertEqual([0, 0], [word_of([0], literal, 0) for literal in (0, 1)])

    def test_packed_values(self):
        net = Net(2, [(0, 0)], [(2, 5), (7, 9), (1, 6)])
        self.assertEqual([0, 12, 10, 6, 4, 9, 6], packed_values(net, [6], [12, 10], 15))
        self.assertEqual([0, 0, 0, 0, 0, 0, 0], packed_values(net, [0], [0, 0], 0))

    def test_packed_values_are_those_of_each_case(self):
        chance = random.Random(4)
        for seed in range(10):
            net = random_circuit(seed, 3, 4, 15).as_net()
            cases = [([chance.randrange(2) for _ in range(4)], [chance.randrange(2) for _ in range(3)])
                     for _ in range(11)]
            state_words = [sum(state[k] << case for case, (state, _) in enumerate(cases)) for k in range(4)]
            row_words = [sum(row[k] << case for case, (_, row) in enumerate(cases)) for k in range(3)]
            words = packed_values(net, state_words, row_words, mask_of(11))
            self.assertTrue(all(0 <= word < 2 ** 11 for word in words))
            for case, (state, row) in enumerate(cases):
                self.assertEqual(node_values(net, state, row), [word >> case & 1 for word in words])

    def test_packed_values_change_nothing(self):
        state_words, row_words = [1], [2, 3]
        net = Net(2, [(0, 0)], [(2, 4)])
        packed_values(net, state_words, row_words, 3).clear()
        self.assertEqual(([1], [2, 3], [(2, 4)]), (state_words, row_words, net.ands))


class RowsTest(unittest.TestCase):
    def test_row_of(self):
        self.assertEqual([], row_of(0, 0))
        self.assertEqual([[0], [1]], [row_of(1, number) for number in (0, 1)])
        self.assertEqual([0, 1, 1, 0], row_of(4, 6))
        self.assertEqual([1] + [0] * 15, row_of(16, 2 ** 15))

    def test_rows_are_in_the_order_of_lists(self):
        for count in range(6):
            rows = [row_of(count, number) for number in range(2 ** count)]
            self.assertEqual([list(bits) for bits in itertools.product((0, 1), repeat=count)], rows)

    def test_all_rows(self):
        self.assertEqual([], all_rows(0))
        self.assertEqual([2], all_rows(1))
        self.assertEqual([12, 10], all_rows(2))
        self.assertEqual([240, 204, 170], all_rows(3))

    def test_all_rows_have_each_row_at_its_number(self):
        for count in (1, 4, 7, 16):
            words = all_rows(count)
            self.assertEqual(count, len(words))
            self.assertTrue(all(0 <= word < 1 << 2 ** count for word in words))
            for number in range(0, 2 ** count, 1 + 2 ** count // 50):
                self.assertEqual(row_of(count, number), [word >> number & 1 for word in words])

    def test_all_rows_of_a_net(self):
        net = Net(3, [], [(2, 4), (5, 7), (8, 11)])
        words = packed_values(net, [], all_rows(3), mask_of(8))
        for number in range(8):
            self.assertEqual(node_values(net, [], row_of(3, number)), [word >> number & 1 for word in words])


class PackedRunTest(unittest.TestCase):
    def test_no_course(self):
        self.assertEqual([], packed_run(random_circuit(1), []))

    def test_courses_of_length_0(self):
        self.assertEqual([[]], packed_run(random_circuit(1), [[]]))
        self.assertEqual([[], [], []], packed_run(random_circuit(1), [[], [], []]))

    def test_answers_are_those_of_run(self):
        for seed in range(12):
            circuit = random_circuit(seed, seed % 4, seed % 5, 14, 3)
            for case_count in (1, 2, 9, 70):
                courses = [random_course(1000 * seed + k, seed % 4, 6) for k in range(case_count)]
                before = plain(courses)
                answers = packed_run(circuit, courses)
                self.assertEqual([run(circuit, course) for course in courses], answers)
                self.assertEqual(before, courses)

    def test_start_values_and_constants(self):
        circuit = Circuit([], [("p", 1, 3), ("q", 0, 1)], [], [("x", 2), ("y", 5), ("z", 1), ("w", 0)])
        self.assertEqual([run(circuit, [[], [], []])] * 3, packed_run(circuit, [[[], [], []]] * 3))

    def test_circuits_without_outputs(self):
        self.assertEqual([[[], []]] * 2, packed_run(Circuit(["a"], [], [], []), [[[0], [1]], [[1], [1]]]))

    def test_long_courses(self):
        circuit = random_circuit(5)
        courses = [random_course(seed, 3, 1000) for seed in range(3)]
        self.assertEqual([run(circuit, course) for course in courses], packed_run(circuit, courses))

    def test_answers_are_new(self):
        circuit = random_circuit(6)
        courses = [random_course(seed, 3, 4) for seed in range(2)]
        answers = packed_run(circuit, courses)
        answers[0][0].append(7)
        answers[0].clear()
        self.assertEqual([run(circuit, course) for course in courses], packed_run(circuit, courses))
        self.assertEqual(run(circuit, courses[1]), answers[1])


if __name__ == "__main__":
    unittest.main()
