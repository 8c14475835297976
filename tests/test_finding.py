"""Promise [97]: courses that find all stuck places but the hidden ones."""

import unittest

from helpers import SuregateTest, edge_circuits, plain, random_circuit, tree_circuit
from joint_circuits import counter, delay, slow_explore

from suregate.compare.compare import compare
from suregate.errors import TooManyStates
from suregate.graph.circuit import Circuit
from suregate.judge.alike import fault_of_alike
from suregate.runs.plain import run
from suregate.stuck.finding import CourseSet, finding_courses
from suregate.stuck.places import first_difference, places_of, with_stuck

# The first output makes up for nothing: each place can be found. The and behind "z" is always 0.
CIRCUIT = Circuit(["a", "b"], [("q", 0, 6)], [(2, 5), (6, 7), (8, 11)], [("x", 8), ("y", 13), ("z", 10)])


def found(circuit, most=1000):
    return finding_courses(circuit, most=most)


def stuck_places(circuit):
    """Returns all places with both values, in order, each with its circuit."""
    return [(place, value, with_stuck(circuit, place, value)) for place in places_of(circuit) for value in (0, 1)]


def slow_courses(circuit, most=1000):
    """Returns all courses of [97], those that stay, and the hidden stuck places; None for too many states."""
    courses, hidden = [], []
    for place, value, stuck in stuck_places(circuit):
        if all(first_difference(circuit, stuck, course) is None for course in courses):
            explored = slow_explore(circuit, stuck, most)
            if explored is None:
                return None
            _, course = explored
            if course is None:
                hidden.append((place, value))
            else:
                courses.append(course)
    kept = list(range(len(courses)))
    shown = [stuck for place, value, stuck in stuck_places(circuit) if (place, value) not in hidden]
    for number in range(len(courses) - 1, -1, -1):
        others = [other for other in kept if other != number]
        if all(any(first_difference(circuit, stuck, courses[k]) is not None for k in others) for stuck in shown):
            kept = others
    return courses, [courses[number] for number in kept], hidden


class FindingTest(SuregateTest):
    def check(self, circuit):
        """Checks the courses for a circuit; returns how many there were before some were dropped, and the set."""
        before = plain(circuit)
        told = found(circuit)
        self.assertEqual(before, plain(circuit))
        self.assertIs(CourseSet, told.__class__)
        tried, courses, hidden = slow_courses(circuit)
        self.assertEqual(courses, told.courses)
        self.assertEqual(hidden, [(place, value) for place, value, _ in told.hidden])
        expected = []
        for place, value, stuck in stuck_places(circuit):
            cycles = [first_difference(circuit, stuck, course) for course in courses]
            numbers = [number for number, cycle in enumerate(cycles) if cycle is not None]
            if numbers:
                expected.append((place, value, numbers[0], cycles[numbers[0]]))
            else:
                self.assertIn((place, value), hidden)
        self.assertEqual(expected, told.found)
        self.assertEqual(len(stuck_places(circuit)), len(told.found) + len(told.hidden))
        for place, value, certificate in told.hidden:
            self.assertIsNone(fault_of_alike(circuit, with_stuck(circuit, place, value), certificate))
        return len(tried), told

    def test_by_definition(self):
        dropped = hidden = several = 0
        circuits = edge_circuits() + [CIRCUIT, counter(2, 3), counter(3, 5), delay(3)]
        circuits += [random_circuit(seed, 2, 2, 7, 2) for seed in range(15)]
        circuits += [tree_circuit(seed, 3, 2, 10, 2) for seed in range(10)]
        for circuit in circuits:
            count, told = self.check(circuit)
            dropped += count > len(told.courses)
            hidden += bool(told.hidden)
            several += len(told.courses) > 1
        self.assertGreater(min(dropped, hidden, several), 8)

    def test_courses_that_make_others_needless(self):
        dropped = 0
        for seed in range(16):
            circuit = tree_circuit(seed, 5, seed % 3, 20, 3)
            tried, courses, hidden = slow_courses(circuit)
            told = found(circuit)
            self.assertEqual(courses, told.courses)
            self.assertEqual(hidden, [(place, value) for place, value, _ in told.hidden])
            dropped += len(tried) - len(courses)
        self.assertGreater(dropped, 8)

    def test_two_courses_of_which_only_one_can_be_left_out(self):
        # Some place is found by two courses alone, each of which could be left out if the other one stays.
        for circuit in (
                tree_circuit(28, 3, 0, 8, 3), tree_circuit(39, 4, 0, 20, 3), random_circuit(29, 3, 2, 6, 3),
                random_circuit(37, 4, 0, 10, 3)):
            tried, courses, _ = slow_courses(circuit)
            self.assertEqual(courses, found(circuit).courses)
            self.assertLess(len(courses), len(tried))

    def test_most_states(self):
        # What is found by a course need not be compared; so there can be fewer states than some comparison meets.
        raised = shown = 0
        circuits = [counter(2, 3), delay(3)] + [random_circuit(seed, 2, 3, 9, 2) for seed in range(30)]
        for circuit in circuits:
            for most in (1, 2, 3, 4, 5, 6, 8, 11, 16):
                expected = slow_courses(circuit, most)
                if expected is None:
                    with self.assertRaises(TooManyStates):
                        found(circuit, most)
                    raised += 1
                else:
                    self.assertEqual(expected[1], found(circuit, most).courses)
                    shown += 1
        self.assertGreater(min(raised, shown), 50)

    def test_certificates_are_those_of_compare(self):
        for circuit in (CIRCUIT, random_circuit(3, 2, 2, 7, 2)):
            told = found(circuit)
            self.assertTrue(told.hidden)
            for place, value, certificate in told.hidden:
                self.assertEqual(
                    ("alike", certificate), compare(circuit, with_stuck(circuit, place, value), most=1000))

    def test_circuits_without_places(self):
        for circuit in (Circuit([], [], [], []), Circuit(["a"], [("q", 0, 1)], [(0, 1)], [("y", 0)])):
            told = found(circuit)
            self.assertEqual(([], [], []), (told.courses, told.found, told.hidden))

    def test_all_places_hidden(self):
        circuit = Circuit(["a"], [("q", 0, 4)], [(2, 4)], [("y", 1)])
        told = found(circuit)
        self.assertEqual(([], []), (told.courses, told.found))
        self.assertEqual(
            [("left", 0), ("left", 0), ("right", 0), ("right", 0), ("next", 0), ("next", 0)],
            [place for place, _, _ in told.hidden])
        self.assertEqual([0, 1] * 3, [value for _, value, _ in told.hidden])

    def test_courses_for_several_places(self):
        circuit = Circuit(["a", "b"], [], [(2, 4)], [("y", 6)])
        told = found(circuit)
        self.assertEqual([[[1, 1]], [[0, 1]], [[1, 0]]], told.courses)
        self.assertEqual(
            [(("left", 0), 0, 0, 0), (("left", 0), 1, 1, 0), (("right", 0), 0, 0, 0), (("right", 0), 1, 2, 0),
             (("output", 0), 0, 0, 0), (("output", 0), 1, 1, 0)], told.found)

    def test_first_cycle_above_zero(self):
        told = found(delay(3))
        self.assertEqual([[[1], [0], [0], [0]], [[0], [0], [0], [0]]], told.courses)
        self.assertIn((("next", 0), 0, 0, 3), told.found)

    def test_too_many_states(self):
        # The counter and the one that stands still have eight joint states together.
        circuit = counter(3)
        self.assertTrue(found(circuit, 64).hidden)
        with self.assertRaises(TooManyStates) as caught:
            found(circuit, 7)
        self.assertEqual({}, vars(caught.exception))
        before = plain(circuit)
        with self.assertRaises(TooManyStates):
            finding_courses(circuit, most=1)
        self.assertEqual(before, plain(circuit))

    def test_most_is_passed_by_keyword(self):
        with self.assertRaises(TypeError):
            finding_courses(CIRCUIT, 1000)

    def test_course_set_keeps_no_list(self):
        courses, told, hidden = [[[0, 1], [1, 1]]], [(("left", 0), 0, 0, 1)], [(("left", 0), 1, None)]
        kept = CourseSet(courses, told, hidden)
        courses[0][0].clear()
        courses[0].append([1])
        courses.append([])
        told.clear()
        hidden.clear()
        self.assertEqual([[[0, 1], [1, 1]]], kept.courses)
        self.assertEqual([(("left", 0), 0, 0, 1)], kept.found)
        self.assertEqual([(("left", 0), 1, None)], kept.hidden)

    def test_many_places(self):
        circuit = tree_circuit(2, 6, 0, 60, 6)
        told = found(circuit)
        for place, value, number, cycle in told.found:
            stuck = with_stuck(circuit, place, value)
            course = told.courses[number]
            self.assertNotEqual(run(circuit, course)[cycle], run(stuck, course)[cycle])
            self.assertEqual(run(circuit, course)[:cycle], run(stuck, course)[:cycle])


if __name__ == "__main__":
    unittest.main()
