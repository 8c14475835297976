"""Promise [70]: the blocking clauses of a set of joint states."""

import itertools
import random
import unittest

from helpers import plain

from suregate.compare.facts import blocking_clauses


def slow_clauses(states, first_latch, latch_count):
    """Returns the blocking clauses, found by dividing as [70] tells it."""
    def divided(part, clause):
        within = [state for state in part if state in states]
        if not within:
            return [clause]
        if len(within) == len(part):
            return []
        place = len(clause)
        literal = 2 * (first_latch + place)
        return (
            divided([state for state in part if state[place] == 0], clause + (literal,))
            + divided([state for state in part if state[place] == 1], clause + (literal + 1,)))

    return divided(list(itertools.product((0, 1), repeat=latch_count)), ())


class BlockingClausesTest(unittest.TestCase):
    def check(self, states, first_latch, latch_count):
        before = plain(states)
        clauses = blocking_clauses(states, first_latch, latch_count)
        self.assertEqual(before, plain(states))
        self.assertEqual(slow_clauses(states, first_latch, latch_count), clauses)
        self.assertTrue(clauses.__class__ is list and all(clause.__class__ is tuple for clause in clauses))
        for state in itertools.product((0, 1), repeat=latch_count):
            values = [0] * first_latch + list(state)
            holding = all(any(values[literal // 2] != literal % 2 for literal in clause) for clause in clauses)
            self.assertEqual(state in states, holding)
        return clauses

    def test_by_hand(self):
        self.assertEqual([(6, 8), (7, 9)], self.check([(0, 1), (1, 0)], 3, 2))
        self.assertEqual([(6, 8), (6, 9, 10), (7,)], self.check([(0, 1, 1)], 3, 3))
        self.assertEqual([(3,)], self.check([(0, 1), (0, 0)], 1, 2))
        self.assertEqual([(2, 4)], self.check([(0, 1), (1, 1), (1, 0)], 1, 2))

    def test_no_state(self):
        for count in range(4):
            self.assertEqual([()], self.check([], 5, count))

    def test_all_states(self):
        for count in range(5):
            self.assertEqual([], self.check(list(itertools.product((0, 1), repeat=count)), 2, count))

    def test_one_state(self):
        self.assertEqual([(4, 6), (4, 7, 9), (5,)], self.check([(0, 1, 0)], 2, 3))
        for state in itertools.product((0, 1), repeat=4):
            clauses = self.check([state], 7, 4)
            self.assertEqual(4, len(clauses))

    def test_no_latches(self):
        self.assertEqual([], self.check([()], 3, 0))
        self.assertEqual([()], self.check([], 3, 0))

    def test_some_sets(self):
        for seed in range(60):
            chance = random.Random(seed)
            count = chance.randrange(1, 7)
            states = list(itertools.product((0, 1), repeat=count))
            chance.shuffle(states)
            self.check(states[:chance.randrange(len(states) + 1)], chance.randrange(1, 9), count)

    def test_the_order_of_the_states_and_repeated_states(self):
        states = [(0, 1, 1), (1, 0, 0), (1, 0, 1), (0, 0, 0)]
        expected = self.check(states, 3, 3)
        self.assertEqual(expected, self.check(states[::-1], 3, 3))
        self.assertEqual(expected, self.check(states + states, 3, 3))
        self.assertEqual([], blocking_clauses([(0,), (0,), (1,)], 3, 1))
        self.assertEqual([(7,)], blocking_clauses([(0,), (0,)], 3, 1))

    def test_many_latches(self):
        state = tuple(place % 2 for place in range(80))
        clauses = blocking_clauses([state], 17, 80)
        self.assertEqual(80, len(clauses))
        self.assertEqual([1] + list(range(2, 81)), sorted(len(clause) for clause in clauses))

    def test_lists_are_new(self):
        states = [(0, 1)]
        clauses = blocking_clauses(states, 1, 2)
        clauses.clear()
        self.assertEqual(2, len(blocking_clauses(states, 1, 2)))


if __name__ == "__main__":
    unittest.main()
