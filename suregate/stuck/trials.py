"""All stuck places of a circuit at once, under one course after the other."""

from suregate.compare.reach import first_case
from suregate.runs.packed import mask_of, word_of
from suregate.runs.plain import start_state
from suregate.stuck.places import places_of


class Trials:
    """A circuit with each of its places stuck at each value, run with one case for each of these.

    The cases of a place stuck at 0 and at 1 stand side by side, in the order of the places. Behind them stands one
    more case, that of the circuit itself.
    """

    def __init__(self, circuit):
        self._circuit = circuit
        self._net = circuit.as_net()
        places = places_of(circuit)
        self.stuck = [(place, value) for place in places for value in (0, 1)]
        self._mask = mask_of(len(self.stuck) + 1)
        # For each place the words that have a 1 in both of its cases, and in the first one alone.
        self._cases = {place: (3 << 2 * number, 1 << 2 * number) for number, place in enumerate(places)}

    def first_cycles(self, course):
        """Returns for each stuck place the first cycle of the course in which the outputs differ, or None."""
        answers = [None] * len(self.stuck)
        found = 0
        state_words = [self._mask * start for start in start_state(self._circuit)]
        for cycle, row in enumerate(course):
            words = self._words_of_nodes(state_words, row)
            differing = self._differing_cases(words) & ~found
            found |= differing
            while differing:
                answers[first_case(differing)] = cycle
                differing &= differing - 1
            state_words = [
                self._word_at(("next", index), words, literal)
                for index, (_, literal) in enumerate(self._net.latches)]
        return answers

    def _words_of_nodes(self, state_words, row):
        """Returns the words of all nodes in a cycle."""
        words = [0] + [self._mask * bit for bit in row] + state_words
        for index, (left, right) in enumerate(self._net.ands):
            words.append(
                self._word_at(("left", index), words, left) & self._word_at(("right", index), words, right))
        return words

    def _differing_cases(self, words):
        """Returns the word of the cases whose outputs are not those of the last case."""
        differing = 0
        for index, (_, literal) in enumerate(self._circuit.outputs):
            word = self._word_at(("output", index), words, literal)
            # The highest bit of a word is that of the circuit itself.
            differing |= word ^ self._mask if word > self._mask >> 1 else word
        return differing

    def _word_at(self, place, words, literal):
        """Returns the word of the literal at a place, which is stuck in its own two cases."""
        word = word_of(words, literal, self._mask)
        if place not in self._cases:
            return word
        both, first = self._cases[place]
        return (word | both) ^ first
