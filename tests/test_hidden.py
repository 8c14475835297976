"""Promise [98]: circuits without hidden places."""

import unittest

from helpers import SuregateTest, edge_circuits, plain, random_circuit, tree_circuit
from joint_circuits import counter, delay, slow_explore
from passes_check import check_hashed, check_pass

from suregate.compare.compare import compare
from suregate.errors import TooManyStates
from suregate.graph.circuit import Circuit
from suregate.passes.structure import hash_circuit, needed_nodes, trim
from suregate.stuck.finding import finding_courses
from suregate.stuck.hidden import remove_hidden
from suregate.stuck.places import first_difference, places_of, with_stuck

# A latch that can never become 1, and ands that hang on it.
NEVER = Circuit(
    ["a", "b"], [("q", 0, 10), ("r", 0, 2)], [(6, 2), (3, 10), (6, 13), (14, 4), (8, 4)], [("y", 17), ("z", 19)])


def removed(circuit, most=1000):
    return remove_hidden(circuit, most=most)


def cleaned(circuit):
    return trim(hash_circuit(circuit)[0])[0]


def slow_removed(circuit, most):
    """Returns the circuit without hidden places as [98] tells it, with courses; None for too many states."""
    present, courses = cleaned(circuit), []
    places = [(place, value) for place in places_of(present) for value in (0, 1)]
    while places:
        stuck = with_stuck(present, *places.pop(0))
        if all(first_difference(present, stuck, course) is None for course in courses):
            explored = slow_explore(present, stuck, most)
            if explored is None:
                return None
            if explored[1] is None:
                present = cleaned(stuck)
                places = [(place, value) for place in places_of(present) for value in (0, 1)]
            else:
                courses.append(explored[1])
    return None if slow_explore(circuit, present, most) is None else present


def slow_rounds(circuit):
    """Returns the circuits after each round, the first one included, without any courses."""
    rounds = [cleaned(circuit)]
    while True:
        present = rounds[-1]
        hidden = [
            (place, value) for place in places_of(present) for value in (0, 1)
            if slow_explore(present, with_stuck(present, place, value), 1000)[1] is None]
        if not hidden:
            return rounds
        rounds.append(cleaned(with_stuck(present, *hidden[0])))


class HiddenTest(SuregateTest):
    def check(self, circuit):
        """Checks the circuit without hidden places; returns the number of rounds that found one."""
        after, certificate = check_pass(self, removed, circuit, same_latches=False)
        rounds = slow_rounds(circuit)
        self.assertEqual(rounds[-1], after)
        self.assertEqual(("alike", certificate), compare(circuit, after, most=1000))
        counts = [len(places_of(present)) for present in rounds]
        self.assertEqual(sorted(set(counts), reverse=True), counts)
        self.assertEqual([], finding_courses(after, most=1000).hidden)
        check_hashed(self, after)
        first_latch = after.as_net().first_latch
        self.assertTrue(all(needed_nodes(after)[first_latch:]))
        self.assertEqual(after, removed(after)[0])
        return len(rounds) - 1

    def test_by_definition(self):
        counts = []
        for circuit in edge_circuits() + [NEVER, counter(2, 3), delay(3), counter(3)]:
            counts.append(self.check(circuit))
        for seed in range(30):
            counts.append(self.check(random_circuit(seed, 2, 2, 8, 2)))
            counts.append(self.check(tree_circuit(seed, 3, 2, 9, 2)))
        self.assertGreater(counts.count(0), 3)
        self.assertGreater(len([count for count in counts if count > 1]), 8)

    def test_never(self):
        after, _ = removed(NEVER)
        self.assertEqual(Circuit(["a", "b"], [("r", 0, 2)], [(4, 6)], [("y", 1), ("z", 9)]), after)

    def test_nothing_is_hidden(self):
        circuit = Circuit(["a", "b"], [("q", 1, 8)], [(2, 5), (3, 6)], [("y", 10)])
        after, certificate = removed(circuit)
        self.assertEqual(circuit, after)
        self.assertEqual([], certificate.start_lines)

    def test_too_many_states(self):
        for circuit, most in ((counter(3), 7), (counter(4, 15), 2), (delay(3), 1)):
            before = plain(circuit)
            with self.assertRaises(TooManyStates) as caught:
                removed(circuit, most)
            self.assertEqual({}, vars(caught.exception))
            self.assertEqual(before, plain(circuit))

    def test_most_states(self):
        # What is found by a course need not be compared; so there can be fewer states than some comparison meets.
        raised = shown = 0
        for seed in range(60):
            circuit = random_circuit(seed, 2, 3, 10, 2)
            for most in (1, 2, 3, 4, 5, 6, 8, 11, 16):
                expected = slow_removed(circuit, most)
                if expected is None:
                    with self.assertRaises(TooManyStates):
                        removed(circuit, most)
                    raised += 1
                else:
                    self.assertEqual(expected, removed(circuit, most)[0])
                    shown += 1
        self.assertGreater(min(raised, shown), 50)

    def test_most_is_passed_by_keyword(self):
        with self.assertRaises(TypeError):
            remove_hidden(NEVER, 1000)


if __name__ == "__main__":
    unittest.main()
