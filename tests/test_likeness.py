"""Promise [61]: questions about the values of two literals in one cycle."""

import random
import unittest

from helpers import holds, models, plain, random_circuit, random_clauses, slow_follow_in_turn

from suregate.clauses.units import first_unfounded
from suregate.frames.frames import frame_clauses, same_clauses
from suregate.graph.builder import Builder
from suregate.graph.net import Net
from suregate.sweep.likeness import Likeness

# Inputs 1 and 2, the latch 3, and ands: 4 and 5 are of the same literals, 6 is constant, 7 is a and b in another way.
NET = Net(2, [(1, 2)], [(2, 4), (4, 2), (6, 7), (8, 5), (8, 10)])


class LikenessTest(unittest.TestCase):
    def check(self, net, clauses, questions):
        """Asks the questions of one object, and checks each answer by trying all assignments."""
        before = plain([net, clauses])
        all_clauses = frame_clauses(net, 0) + clauses
        all_models = models(net.node_count, all_clauses)
        likeness = Likeness(net, clauses)
        answers = []
        for x, y in questions:
            model = likeness.parting(x, y)
            answers.append(model)
            differing = [values for values in all_models if values[x // 2] ^ x & 1 != values[y // 2] ^ y & 1]
            if model is None:
                self.assertEqual([], differing)
                lines = likeness.lines_since(0)
                self.assertTrue(slow_follow_in_turn(all_clauses, lines))
                for clause in same_clauses(x, y):
                    self.assertTrue(slow_follow_in_turn(all_clauses + lines, [clause]))
            else:
                self.assertIn(model, differing)
                self.assertIs(list, model.__class__)
                self.assertTrue(all(value.__class__ is int for value in model))
        self.assertEqual(before, plain([net, clauses]))
        return answers

    def test_literals_that_part_and_that_do_not(self):
        answers = self.check(NET, [], [(2, 4), (8, 10), (8, 11), (12, 14), (8, 16), (12, 0), (12, 1), (2, 3), (14, 0)])
        self.assertEqual(
            [True, False, True, False, False, False, True, True, False],
            [answer is not None for answer in answers])

    def test_a_literal_and_itself(self):
        for literal in range(2 * NET.node_count):
            self.assertEqual([None], self.check(NET, [], [(literal, literal)]))
            self.assertNotEqual([None], self.check(NET, [], [(literal, literal ^ 1)]))

    def test_clauses_restrict_the_leaves(self):
        self.assertNotEqual([None], self.check(NET, [], [(2, 6)]))
        self.assertEqual([None, None], self.check(NET, [(3, 6), (2, 7)], [(2, 6), (3, 7)]))
        self.assertEqual([None, None], self.check(NET, [(5,)], [(4, 0), (8, 0)]))
        # Neither alone says that both inputs are the same.
        self.assertNotEqual([None], self.check(NET, [(3, 4)], [(2, 4)]))
        self.assertNotEqual([None], self.check(NET, [(2, 5)], [(2, 4)]))

    def test_clauses_that_never_hold(self):
        self.assertEqual([None] * 3, self.check(NET, [()], [(2, 4), (2, 3), (0, 1)]))
        self.assertEqual([None] * 3, self.check(NET, [(2,), (3,)], [(2, 4), (2, 3), (0, 1)]))
        self.assertEqual([None] * 2, self.check(NET, [(2, 4), (2, 5), (3, 4), (3, 5)], [(6, 7), (6, 6)]))

    def test_next_literals_make_no_difference(self):
        self.assertNotEqual([None], self.check(Net(1, [(0, 0), (0, 2)], []), [], [(4, 0)]))
        self.assertNotEqual([None], self.check(Net(1, [(0, 0), (0, 2)], []), [], [(6, 2)]))

    def test_many_questions(self):
        like = 0
        for seed in range(60):
            chance = random.Random(seed)
            net = random_circuit(seed, 2, 2, 9).as_net()
            clauses = [
                tuple(literal + 2 for literal in clause)
                for clause in random_clauses(seed, 4, chance.randrange(4), 3)]
            questions = [(chance.randrange(2 * net.node_count), chance.randrange(2 * net.node_count)) for _ in range(12)]
            like += self.check(net, clauses, questions + questions[:3]).count(None)
        self.assertGreater(like, 100)

    def test_lines_since(self):
        builder = Builder(8)
        one = two = 0
        for leaf in range(2, 18, 2):
            one = builder.unlike(one, leaf)
        for leaf in range(16, 0, -2):
            two = builder.unlike(two, leaf)
        net = Net(8, [], builder.pairs)
        likeness = Likeness(net, [])
        self.assertEqual([], likeness.lines_since(0))
        self.assertIsNone(likeness.parting(one, two))
        lines = likeness.lines_since(0)
        self.assertGreater(len(lines), 2)
        self.assertIsNone(first_unfounded(frame_clauses(net, 0), lines + same_clauses(one, two)))
        self.assertTrue(all(line.__class__ is tuple for line in lines))
        for count in range(len(lines) + 3):
            self.assertEqual(lines[count:], likeness.lines_since(count))
        self.assertIsNone(likeness.parting(one, two))
        self.assertIsNone(likeness.parting(one ^ 1, two ^ 1))
        more = likeness.lines_since(0)
        self.assertEqual(lines, more[:len(lines)])
        self.assertEqual(more[len(lines):], likeness.lines_since(len(lines)))

    def test_lists_are_not_kept(self):
        clauses = [(3, 6)]
        net = Net(2, [(1, 2)], [(2, 4), (4, 2)])
        likeness = Likeness(net, clauses)
        clauses.append((2, 7))
        clauses.append(())
        net.ands.append((6, 6))
        net.latches.clear()
        model = likeness.parting(2, 6)
        self.assertEqual(6, len(model))
        self.assertEqual((0, 1), (model[1], model[3]))
        self.assertIsNone(likeness.parting(8, 10))
        lines = likeness.lines_since(0)
        lines.append(())
        self.assertEqual(lines[:-1], likeness.lines_since(0))
        self.assertTrue(all(holds(line, model) for line in lines[:-1]))


if __name__ == "__main__":
    unittest.main()
