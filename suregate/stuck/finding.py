"""Courses that find all stuck places which are not hidden."""

from suregate.compare.compare import certificate_of_states
from suregate.compare.reach import explore
from suregate.graph.joining import Joined
from suregate.stuck.places import with_stuck
from suregate.stuck.trials import Trials


class CourseSet:
    """A list of courses, what they find, and the stuck places that are hidden."""

    def __init__(self, courses, found, hidden):
        self.courses = [[list(row) for row in course] for course in courses]
        self.found = list(found)
        self.hidden = list(hidden)


def finding_courses(circuit, *, most):
    """Returns courses that find all stuck places but the hidden ones; none of the courses can be left out."""
    trials = Trials(circuit)
    courses = []
    # For each course the first cycles in which it finds the stuck places.
    cycle_lists = []
    hidden = []
    for index, (place, value) in enumerate(trials.stuck):
        if all([found[index] is None for found in cycle_lists]):
            joined = Joined(circuit, with_stuck(circuit, place, value))
            states, course = explore(joined, most)
            if course is None:
                hidden.append((place, value, certificate_of_states(joined.joint, states)))
            else:
                courses.append(course)
                cycle_lists.append(trials.first_cycles(course))
    kept = _needed_numbers(cycle_lists, len(trials.stuck))
    found = _found_places(trials.stuck, [cycle_lists[number] for number in kept])
    return CourseSet([courses[number] for number in kept], found, hidden)


def _needed_numbers(cycle_lists, stuck_count):
    """Returns the numbers of the courses that stay if those that can be left out are dropped, the last one first."""
    counts = [sum([found[index] is not None for found in cycle_lists]) for index in range(stuck_count)]
    kept = []
    for number in reversed(range(len(cycle_lists))):
        indexes = [index for index, cycle in enumerate(cycle_lists[number]) if cycle is not None]
        if all([counts[index] > 1 for index in indexes]):
            for index in indexes:
                counts[index] -= 1
        else:
            kept.append(number)
    return kept[::-1]


def _found_places(stuck, cycle_lists):
    """Returns the stuck places that are found, with the number of the first course that does, and the cycle."""
    answers = []
    for index, (place, value) in enumerate(stuck):
        finders = [(number, found[index]) for number, found in enumerate(cycle_lists) if found[index] is not None]
        if finders:
            number, cycle = finders[0]
            answers.append((place, value, number, cycle))
    return answers
