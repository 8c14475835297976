"""Promises [27] and [28]: the search that learns."""

import random
import unittest
from unittest import mock

from helpers import holds, models, plain, random_circuit, random_clauses

from suregate.clauses import search as search_file
from suregate.clauses.search import Search, decide
from suregate.clauses.units import first_unfounded
from suregate.frames.frames import frame_clauses


def pigeons(holes):
    """Returns the number of variables and clauses that put one more pigeon than there are holes into the holes."""
    def literal(pigeon, hole):
        return 2 * (pigeon * holes + hole)

    clauses = [tuple(literal(pigeon, hole) for hole in range(holes)) for pigeon in range(holes + 1)]
    clauses += [
        (literal(one, hole) ^ 1, literal(other, hole) ^ 1)
        for hole in range(holes) for one in range(holes + 1) for other in range(one)]
    return holes * (holes + 1), clauses


class SearchChecks(unittest.TestCase):
    def check_model(self, model, count, clauses, assumed):
        self.assertIs(list, model.__class__)
        self.assertEqual(count, len(model))
        self.assertTrue(all(value in (0, 1) for value in model))
        self.assertTrue(all(holds(clause, model) for clause in clauses), model)
        self.assertTrue(all(holds((literal,), model) for literal in assumed), model)

    def check_lines(self, lines, clauses, assumed):
        self.assertIs(list, lines.__class__)
        self.assertTrue(all(line.__class__ is tuple for line in lines))
        self.assertIsNone(first_unfounded(clauses, lines))
        self.assertTrue(all(literal ^ 1 in assumed for literal in lines[-1]), (lines[-1], assumed))

    def check_decide(self, count, clauses, assumed):
        """Checks the answer to one question and returns whether there is a model."""
        before = plain([clauses, assumed])
        kind, answer = decide(count, clauses, assumed)
        self.assertEqual(before, [clauses, assumed])
        if kind == "model":
            self.check_model(answer, count, clauses, assumed)
        else:
            self.assertEqual("lines", kind)
            self.check_lines(answer, clauses, assumed)
        return kind == "model"


class DecideTest(SearchChecks):
    def test_questions_without_variables(self):
        self.assertEqual(("model", []), decide(0, [], []))
        self.assertEqual(("lines", [()]), decide(0, [()], []))

    def test_the_empty_clause(self):
        self.assertFalse(self.check_decide(3, [(2,), ()], []))
        self.assertFalse(self.check_decide(3, [()], [4]))

    def test_free_variables_get_values(self):
        self.assertTrue(self.check_decide(4, [], []))
        self.assertTrue(self.check_decide(4, [(2,), (5,)], []))
        self.assertTrue(self.check_decide(4, [], [0, 3, 4, 7]))

    def test_repeated_literals_and_complements_in_clauses(self):
        self.assertTrue(self.check_decide(2, [(0, 0), (2, 3), (1, 1, 3, 3)], []))
        self.assertFalse(self.check_decide(2, [(0, 0), (1, 1)], []))

    def test_assumed_literals(self):
        clauses = [(1, 2), (3, 4)]
        self.assertTrue(self.check_decide(3, clauses, [0]))
        self.assertTrue(self.check_decide(3, clauses, [5]))
        self.assertFalse(self.check_decide(3, clauses, [0, 5]))
        self.assertFalse(self.check_decide(3, clauses, [5, 0]))
        self.assertFalse(self.check_decide(3, clauses, [0, 0, 5, 5]))
        self.assertEqual({1, 4}, set(decide(3, clauses, [5, 0])[1][-1]))

    def test_an_assumed_literal_that_a_clause_forbids(self):
        self.assertEqual(("lines", [(3,)]), decide(2, [(3,)], [2]))
        self.assertEqual(("lines", [(3,)]), decide(2, [(3,)], [0, 2]))

    def test_complements_among_the_assumed_literals(self):
        self.assertFalse(self.check_decide(2, [], [2, 3]))
        self.assertFalse(self.check_decide(4, [(0, 4)], [6, 3, 0, 2]))
        search = Search(4, [(0, 4)])
        self.assertIsNone(search.model_under([2, 3]))
        self.check_model(search.model_under([2]), 4, [(0, 4)], [2])

    def test_no_model_without_assumed_literals(self):
        clauses = [(0, 2), (0, 3), (1, 2), (1, 3)]
        kind, lines = decide(2, clauses, [])
        self.assertEqual(("lines", ()), (kind, lines[-1]))
        self.check_lines(lines, clauses, [])

    def test_all_small_questions(self):
        chance = random.Random(11)
        seen = set()
        for seed in range(500):
            clauses = random_clauses(seed, 6, chance.randrange(40), 4)
            assumed = [chance.randrange(12) for _ in range(chance.randrange(4))]
            expected = models(6, clauses + [(literal,) for literal in assumed]) != []
            self.assertEqual(expected, self.check_decide(6, clauses, assumed))
            seen.add((expected, len(assumed)))
        self.assertEqual(8, len(seen))

    def test_harder_questions(self):
        found = set()
        for seed in range(12):
            chance = random.Random(seed)
            clauses = [
                tuple(2 * variable + chance.randrange(2) for variable in chance.sample(range(60), 3))
                for _ in range(258)]
            found.add(self.check_decide(60, clauses, []))
            self.check_decide(60, clauses, [0, 3, 5, 6])
        self.assertEqual({True, False}, found)

    def test_pigeons(self):
        for holes in range(1, 7):
            self.assertFalse(self.check_decide(*pigeons(holes), []))
            count, clauses = pigeons(holes)
            self.assertTrue(self.check_decide(count, clauses[1:], []))

    def test_questions_with_many_learned_lines(self):
        count, clauses = pigeons(7)
        search = Search(count, clauses)
        self.assertIsNone(search.model_under([]))
        self.assertGreater(len(search.learned), 2000)
        self.check_lines(search.learned, clauses, [])

    def test_learned_clauses_that_the_search_drops_stay_learned(self):
        count, clauses = pigeons(5)
        with mock.patch.multiple(search_file, FIRST_PATIENCE=10, FIRST_MEMORY=20):
            self.assertFalse(self.check_decide(count, clauses, []))
            # A further variable lets the first pigeon stay outside.
            outside = 2 * count
            clauses[0] += (outside,)
            search = Search(count + 1, clauses)
            for _ in range(3):
                self.assertIsNone(search.model_under([outside ^ 1]))
                self.check_lines(search.learned, clauses, [outside ^ 1])
                self.check_model(search.model_under([outside]), count + 1, clauses, [outside])

    def test_questions_about_nets(self):
        for seed in range(10):
            net = random_circuit(seed, 4, 3, 40).as_net()
            clauses = frame_clauses(net, 0)
            search = Search(net.node_count, clauses)
            for node in range(net.first_and, net.node_count):
                for literal in (2 * node, 2 * node + 1):
                    model = search.model_under([literal])
                    if model is None:
                        self.check_lines(search.learned, clauses, [literal])
                    else:
                        self.check_model(model, net.node_count, clauses, [literal])


class GrowingTest(SearchChecks):
    def test_new_search(self):
        self.assertEqual([], Search(3, [(2,)]).learned)

    def test_the_list_of_clauses_is_copied(self):
        clauses = [(0, 2)]
        search = Search(2, clauses)
        clauses.append((1,))
        clauses.append((3,))
        self.check_model(search.model_under([]), 2, clauses[:1], [])

    def test_add_clause(self):
        search = Search(2, [(0, 2)])
        self.assertIsNone(search.add_clause((1,)))
        self.assertEqual([0, 1], search.model_under([]))
        search.add_clause((3, 3))
        self.assertIsNone(search.model_under([]))
        self.assertEqual((), search.learned[-1])
        search.add_clause((0,))
        self.assertIsNone(search.model_under([2]))

    def test_models_are_new_lists(self):
        search = Search(2, [(0,), (2,)])
        search.model_under([]).clear()
        self.assertEqual([1, 1], search.model_under([]))

    def test_answers_of_decide_are_new_lists(self):
        clauses = [(0, 2), (0, 3), (1, 2), (1, 3)]
        decide(2, clauses, [])[1].clear()
        self.check_lines(decide(2, clauses, [])[1], clauses, [])

    def test_elder_lines_stay_and_the_last_one_is_for_the_question(self):
        chance = random.Random(5)
        for seed in range(40):
            clauses = random_clauses(seed, 9, 22, 4)
            search = Search(9, clauses)
            log = [[clause, None] for clause in clauses]
            for _ in range(12):
                elder = list(search.learned)
                assumed = [chance.randrange(18) for _ in range(chance.randrange(4))]
                before = list(assumed)
                model = search.model_under(assumed)
                self.assertEqual(before, assumed)
                expected = models(9, clauses + [(literal,) for literal in assumed]) != []
                self.assertEqual(expected, model is not None)
                if model is None:
                    self.assertTrue(all(literal ^ 1 in assumed for literal in search.learned[-1]))
                else:
                    self.check_model(model, 9, clauses, assumed)
                self.assertEqual(elder, search.learned[:len(elder)])
                log += [[clauses, line] for line in search.learned[len(elder):]]
                clauses = clauses + random_clauses(chance.randrange(10 ** 6), 9, 1, 4)
                search.add_clause(clauses[-1])
            self.check_log(log, search.learned)

    def check_log(self, log, learned):
        """Checks that each line follows from the clauses of its time and the lines before it."""
        told = [entry for entry in log if entry[1] is not None]
        self.assertEqual([line for _, line in told], learned)
        for index, (clauses, line) in enumerate(told):
            self.assertIsNone(first_unfounded(clauses + learned[:index], [line]))

    def test_the_same_question_again(self):
        clauses = [(1, 2), (3, 4), (7, 8)]
        search = Search(5, clauses)
        for _ in range(3):
            self.check_model(search.model_under([0]), 5, clauses, [0])
            self.assertIsNone(search.model_under([0, 5]))
            self.check_lines(search.learned, clauses, [0, 5])
            self.assertIsNone(search.model_under([9, 6]))
            self.check_lines(search.learned, clauses, [9, 6])

    def test_the_same_question_again_without_any_model(self):
        count, clauses = pigeons(4)
        search = Search(count, clauses)
        for assumed in ([], [0], [], [3, 2]):
            self.assertIsNone(search.model_under(assumed))
            self.check_lines(search.learned, clauses, assumed)

    def test_questions_between_clauses(self):
        search = Search(4, [])
        clauses = []
        for clause in ((0, 2), (1, 2), (0, 3, 4), (5, 6), (7, 0), (1, 4)):
            clauses.append(clause)
            search.add_clause(clause)
            for assumed in ([], [3], [7], [5, 0], [2, 4, 6]):
                expected = models(4, clauses + [(literal,) for literal in assumed]) != []
                model = search.model_under(assumed)
                self.assertEqual(expected, model is not None)
                if model is None:
                    self.check_lines(search.learned, clauses, assumed)
                else:
                    self.check_model(model, 4, clauses, assumed)


if __name__ == "__main__":
    unittest.main()
