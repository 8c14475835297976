"""Promises [24], [25] and [26]: unit propagation, and lines that follow."""

import itertools
import random
import unittest

from helpers import models, plain, random_clauses, slow_follow_in_turn, slow_spread

from suregate.clauses.units import Units, first_unfounded


class SpreadTest(unittest.TestCase):
    def test_no_clauses(self):
        units = Units([])
        self.assertEqual((False, []), units.spread([]))
        self.assertEqual((False, [2, 5]), units.spread([5, 2]))

    def test_answers_are_pairs(self):
        answer = Units([(0,)]).spread([])
        self.assertIs(tuple, answer.__class__)
        self.assertIs(False, answer[0])
        self.assertIs(True, Units([()]).spread([])[0])

    def test_single_literals(self):
        self.assertEqual((False, [3]), Units([(3,)]).spread([]))
        self.assertEqual((False, [3, 4]), Units([(3,)]).spread([4]))
        self.assertEqual((True, []), Units([(3,)]).spread([2]))
        self.assertEqual((True, []), Units([(3,), (2,)]).spread([]))

    def test_chains(self):
        clauses = [(1, 2), (3, 4), (5, 6), (7, 8)]
        self.assertEqual((False, []), Units(clauses).spread([]))
        self.assertEqual((False, [0, 2, 4, 6, 8]), Units(clauses).spread([0]))
        self.assertEqual((False, [1, 3, 5]), Units(clauses).spread([5]))
        self.assertEqual((True, []), Units(clauses).spread([0, 9]))

    def test_clauses_of_all_lengths_and_marks(self):
        for length in range(2, 7):
            for marks in itertools.product((0, 1), repeat=length):
                self.check_clause(tuple(2 * variable + mark for variable, mark in enumerate(marks)))

    def check_clause(self, clause):
        """Checks what a clause alone makes true when some of its literals are false."""
        complements = [literal ^ 1 for literal in clause]
        units = Units([clause])
        for place, literal in enumerate(clause):
            others = complements[:place] + complements[place + 1:]
            self.assertEqual((False, sorted(others + [literal])), units.spread(others))
            self.assertEqual((False, sorted(others[1:])), units.spread(others[1:]))
            self.assertEqual((False, sorted(others + [literal])), units.spread([literal] + others))
        self.assertEqual((True, []), units.spread(complements))
        self.assertEqual((True, []), units.spread(complements[::-1]))
        self.assertTrue(units.follows(clause))

    def test_repeated_literals(self):
        self.assertEqual((False, [4]), Units([(4, 4)]).spread([]))
        self.assertEqual((False, [3, 4]), Units([(2, 4, 2, 4)]).spread([3]))
        self.assertEqual((False, [3, 4]), Units([(2, 4, 2, 4)]).spread([3, 3]))
        self.assertEqual((True, []), Units([(4, 4), (5, 5, 5)]).spread([]))
        self.assertEqual((False, [1, 3, 4]), Units([(0, 2, 4, 4, 0, 2)]).spread([3, 1]))

    def test_a_literal_and_its_complement_in_a_clause(self):
        self.assertEqual((False, []), Units([(2, 3)]).spread([]))
        self.assertEqual((False, [5]), Units([(2, 3, 4)]).spread([5]))
        self.assertEqual((False, [2, 5]), Units([(2, 4, 3, 6)]).spread([5, 2]))

    def test_the_empty_clause(self):
        for units in (Units([()]), Units([(), (2,)]), Units([(2,), ()])):
            self.assertEqual((True, []), units.spread([]))
            self.assertEqual((True, []), units.spread([8]))
            self.assertTrue(units.follows(()))
            self.assertTrue(units.follows((9,)))

    def test_complements_among_the_assumed_literals(self):
        for clauses in ([], [(0,)], [(4, 6)]):
            self.assertEqual((True, []), Units(clauses).spread([2, 3]))
            self.assertEqual((True, []), Units(clauses).spread([3, 8, 2]))
        units = Units([(2, 4)])
        units.spread([6, 7])
        self.assertEqual((False, [3, 4]), units.spread([3]))

    def test_repeated_assumed_literals(self):
        self.assertEqual((False, [2, 5]), Units([]).spread([2, 5, 2, 5]))

    def test_great_variables(self):
        great = 2 * 10 ** 15
        units = Units([(great, 3), (great + 1, 10 ** 9), (great + 8, 10 ** 9 + 1, 7, 9, 11)])
        self.assertEqual((False, [2, 6, 8, 10, 10 ** 9, great, great + 8]), units.spread([2, 6, 8, 10]))
        self.assertTrue(units.follows((3, 10 ** 9)))
        self.assertFalse(units.follows((great,)))

    def test_known_literals_ascend_and_stand_once(self):
        units = Units([(9,), (8, 7), (8, 4, 2), (8, 6, 5)])
        self.assertEqual((False, [2, 5, 7, 9]), units.spread([5, 2, 9]))

    def test_propagation_is_that_of_the_slow_way(self):
        chance = random.Random(7)
        for seed in range(300):
            clauses = random_clauses(seed, 8, chance.randrange(25), 6)
            units = Units(clauses)
            for _ in range(8):
                assumed = [chance.randrange(16) for _ in range(chance.randrange(4))]
                self.assertEqual(slow_spread(clauses, assumed), units.spread(assumed), (clauses, assumed))
                conflict = slow_spread(clauses, [literal ^ 1 for literal in assumed])[0]
                self.assertIs(conflict, units.follows(tuple(assumed)))

    def test_questions_about_long_clauses_one_after_another(self):
        chance = random.Random(8)
        conflicts = 0
        for _ in range(40):
            clauses = [
                tuple(2 * variable + chance.randrange(2) for variable in chance.sample(range(9), chance.randrange(4, 8)))
                for _ in range(40)]
            units = Units(clauses)
            for _ in range(30):
                assumed = [2 * variable + chance.randrange(2) for variable in chance.sample(range(9), 5)]
                expected = slow_spread(clauses, assumed)
                conflicts += expected[0]
                self.assertEqual(expected, units.spread(assumed))
                self.assertIs(expected[0], units.follows(tuple(literal ^ 1 for literal in assumed)))
                if chance.randrange(4) == 0:
                    clauses.append(tuple(literal ^ 1 for literal in assumed))
                    units.add_clause(clauses[-1])
        self.assertGreater(conflicts, 100)

    def test_the_order_of_clauses_makes_no_difference(self):
        clauses = [(1, 2), (3, 4, 7), (0, 6), (5, 8, 9, 10), (8, 5, 10)]
        answers = {str(Units(order).spread([0, 7])) for order in itertools.permutations(clauses)}
        self.assertEqual({str(Units(clauses).spread([0, 7]))}, answers)


class GrowingTest(unittest.TestCase):
    def test_add_clause(self):
        units = Units([(2, 4)])
        self.assertEqual((False, [2, 5]), units.spread([5]))
        self.assertIsNone(units.add_clause((3, 6)))
        self.assertEqual((False, [2, 5, 6]), units.spread([5]))
        units.add_clause((5,))
        self.assertEqual((False, [2, 5, 6]), units.spread([]))
        units.add_clause((7,))
        self.assertEqual((True, []), units.spread([]))
        units.add_clause((8,))
        self.assertEqual((True, []), units.spread([]))

    def test_clauses_that_are_added_count_like_those_of_the_start(self):
        chance = random.Random(9)
        for seed in range(150):
            clauses = random_clauses(seed, 7, 18, 6)
            units = Units([])
            for count, clause in enumerate(clauses):
                assumed = [chance.randrange(14) for _ in range(chance.randrange(3))]
                self.assertEqual(slow_spread(clauses[:count], assumed), units.spread(assumed))
                units.add_clause(clause)
            self.assertEqual(slow_spread(clauses, []), units.spread([]))

    def test_the_list_of_clauses_is_copied(self):
        clauses = [(2, 4)]
        units = Units(clauses)
        clauses.append((5,))
        self.assertEqual((False, []), units.spread([]))
        clauses.clear()
        self.assertEqual((False, [2, 5]), units.spread([5]))

    def test_questions_change_nothing(self):
        clauses = random_clauses(3, 30, 60, 6)
        units = Units(clauses)
        questions = [[literal, other] for literal in range(0, 60, 7) for other in range(1, 60, 11)]
        first = [units.spread(question) for question in questions]
        seconds = [units.follows(tuple(question)) for question in questions]
        self.assertEqual(first[::-1], [units.spread(question) for question in questions[::-1]])
        self.assertEqual(seconds[::-1], [units.follows(tuple(question)) for question in questions[::-1]])

    def test_arguments_stay_as_they_are(self):
        clauses, literals, lines = [(2, 4), (3, 4), (6, 6, 2)], [5, 5, 8], [(4,), (4, 2)]
        before = plain([clauses, literals, lines])
        units = Units(clauses)
        units.spread(literals)
        first_unfounded(clauses, lines)
        self.assertEqual(before, [clauses, literals, lines])

    def test_lists_of_literals_are_new(self):
        units = Units([(3,), (2, 4)])
        units.spread([])[1].append(77)
        self.assertEqual((False, [3, 4]), units.spread([]))


class FollowsTest(unittest.TestCase):
    def test_lines(self):
        units = Units([(2, 4), (3, 4)])
        self.assertIs(True, units.follows((4,)))
        self.assertIs(True, units.follows((4, 9)))
        self.assertIs(True, units.follows((2, 4)))
        self.assertIs(False, units.follows((2,)))
        self.assertIs(False, units.follows((5,)))
        self.assertIs(False, units.follows((8,)))

    def test_the_empty_line(self):
        self.assertFalse(Units([]).follows(()))
        self.assertFalse(Units([(2,), (3, 4)]).follows(()))
        self.assertTrue(Units([(2,), (3, 4), (5,)]).follows(()))

    def test_an_unsatisfiable_list_whose_empty_line_does_not_follow_at_once(self):
        clauses = [(0, 2), (0, 3), (1, 2), (1, 3)]
        self.assertFalse(Units(clauses).follows(()))
        self.assertTrue(Units(clauses).follows((0,)))
        self.assertIsNone(first_unfounded(clauses, [(0,), ()]))

    def test_a_line_with_a_literal_and_its_complement(self):
        for clauses in ([], [(8,)], [(2,)], [(3,)]):
            self.assertTrue(Units(clauses).follows((2, 3)))
            self.assertTrue(Units(clauses).follows((5, 2, 7, 3)))

    def test_repeated_literals_in_a_line(self):
        self.assertTrue(Units([(2, 4)]).follows((4, 4, 2)))
        self.assertFalse(Units([(2, 4)]).follows((4, 4)))


class InTurnTest(unittest.TestCase):
    def test_lines_in_turn(self):
        clauses = [(0, 2, 4), (0, 2, 5), (0, 3, 4), (0, 3, 5)]
        self.assertIsNone(first_unfounded(clauses, [(0, 2), (0,)]))
        self.assertEqual(0, first_unfounded(clauses, [(0,), (0, 2)]))
        self.assertEqual(2, first_unfounded(clauses, [(0, 2), (0,), ()]))

    def test_no_lines(self):
        self.assertIsNone(first_unfounded([], []))
        self.assertIsNone(first_unfounded([()], []))

    def test_the_first_line_that_does_not_follow_is_told(self):
        self.assertEqual(1, first_unfounded([(2,)], [(2, 4), (4,), (5,)]))
        self.assertEqual(0, first_unfounded([(2,)], [(4,), (4, 6)]))
        self.assertEqual(0, first_unfounded([], [(4,), (4,)]))

    def test_empty_lines(self):
        self.assertEqual(0, first_unfounded([(2,)], [()]))
        self.assertIsNone(first_unfounded([(2,), (3,)], [(), (9,)]))

    def test_long_lines(self):
        clauses = [(0, 2, 4, 6, 8), (1, 2, 4, 6, 8)]
        lines = [(2, 4, 6, 8), (2, 4, 6, 8, 10)]
        self.assertIsNone(first_unfounded(clauses, lines))
        self.assertEqual(1, first_unfounded(clauses, [lines[0], (2, 4, 6)]))

    def test_random_lines(self):
        for seed in range(200):
            clauses = random_clauses(seed, 5, 12, 4)
            lines = random_clauses(seed + 1000, 5, 4, 4)
            index = first_unfounded(clauses, lines)
            for count in range(len(lines) + 1):
                self.assertEqual(index is None or count <= index, slow_follow_in_turn(clauses, lines[:count]))

    def test_lines_hold_in_all_models(self):
        for seed in range(100):
            clauses = random_clauses(seed, 6, 14, 4)
            lines = [line for line in random_clauses(seed + 500, 6, 30, 4) if Units(clauses).follows(line)]
            self.assertEqual(models(6, clauses), models(6, clauses + lines))


if __name__ == "__main__":
    unittest.main()
