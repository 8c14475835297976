"""The joint states of two circuits that are met, one after the other."""

from suregate.errors import TooManyStates
from suregate.runs.packed import all_rows, mask_of, packed_values, row_of, word_of


class AllRows:
    """The joint net of two circuits under all rows at once, one state after the other."""

    def __init__(self, joined):
        self._goals = joined.goals
        self._net = joined.joint
        self._row_words = all_rows(self._net.input_count)
        self._mask = mask_of(1 << self._net.input_count)

    def words_in(self, state):
        """Returns the words of all nodes in a state, with one case for each row."""
        return packed_values(self._net, [self._mask * bit for bit in state], self._row_words, self._mask)

    def differing_rows(self, words):
        """Returns the word of the rows under which the outputs differ, given the words of all nodes."""
        rows = 0
        for left, right in self._goals:
            rows |= word_of(words, left, self._mask) ^ word_of(words, right, self._mask)
        return rows

    def states_after(self, words, most):
        """Returns the next states with their first rows, given the words of all nodes.

        Raises TooManyStates if there are more of them than so many.
        """
        next_words = [word_of(words, literal, self._mask) for _, literal in self._net.latches]
        # Latches with the same next values divide the rows only once.
        places = {}
        # The parts of the rows, each with the next values of the latches that have divided them so far.
        parts = [(self._mask, ())]
        for word in next_words:
            if word not in places:
                places[word] = len(places)
                parts = _divided(parts, word)
                if len(parts) > most:
                    raise TooManyStates("a state has more next states than are allowed")
        latch_places = [places[word] for word in next_words]
        found = sorted([(first_case(rows), values) for rows, values in parts])
        return [(tuple([values[place] for place in latch_places]), number) for number, values in found]


def rows_that_differ(joined, state):
    """Returns the word of the rows under which the outputs differ in a joint state."""
    all_at_once = AllRows(joined)
    return all_at_once.differing_rows(all_at_once.words_in(state))


def next_states(joined, state):
    """Returns the next states of a joint state, each with the first row that leads to it, in the order of the rows."""
    all_at_once = AllRows(joined)
    return all_at_once.states_after(all_at_once.words_in(state), 1 << joined.joint.input_count)


def explore(joined, most):
    """Returns the joint states that are met, and the course that tells the circuits apart, or None."""
    states, _, course = explored(joined, most)
    return states, course


def explored(joined, most):
    """Returns what explore does, and in between for each state how many cycles lead to it."""
    all_at_once = AllRows(joined)
    states = [tuple([start for start, _ in joined.joint.latches])]
    lengths = [0]
    # For each state but the first, the index of the state before it and the row that leads from there.
    origins = [None]
    met = {states[0]: True}
    visited = 0
    while visited < len(states):
        words = all_at_once.words_in(states[visited])
        differing = all_at_once.differing_rows(words)
        if differing != 0:
            return states, lengths, _course_to(joined.joint, origins, visited, first_case(differing))
        for state, number in all_at_once.states_after(words, most):
            if state not in met:
                met[state] = True
                states.append(state)
                lengths.append(lengths[visited] + 1)
                origins.append((visited, number))
        if len(states) > most:
            raise TooManyStates("more joint states have been met than are allowed")
        visited += 1
    return states, lengths, None


def first_case(word):
    """Returns the first case in which the word has a 1."""
    return (word & -word).bit_length() - 1


def _divided(parts, word):
    """Returns the parts of the rows divided by the values of a word, which stand behind those of the other words."""
    answers = []
    for rows, values in parts:
        within = rows & word
        if within != rows:
            answers.append((rows ^ within, (*values, 0)))
        if within != 0:
            answers.append((within, (*values, 1)))
    return answers


def _course_to(net, origins, index, number):
    """Returns the course that leads to the state with this index, followed by the row with this number."""
    numbers = [number]
    while origins[index] is not None:
        index, number = origins[index]
        numbers.append(number)
    return [row_of(net.input_count, number) for number in reversed(numbers)]
