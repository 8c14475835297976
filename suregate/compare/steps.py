"""Lines over more and more cycles of a net, found with the help of the states that can be met in so many cycles."""

from suregate.clauses.search import Search
from suregate.compare.proofs import add_likes, next_claim, state_words
from suregate.frames.frames import frame_clauses, in_frame, same_clauses, start_clauses
from suregate.runs.packed import mask_of, word_of


class Steps:
    """The frames of a net, each with a search over its own clauses; the methods change it.

    The states are all that can be met in the cycles of the frames, in the order of the cycles in which they are met
    first; the lengths are the numbers of these cycles.
    """

    def __init__(self, net, states, lengths):
        self._net = net
        self._lengths = {state: length for state, length in zip(states, lengths)}
        # For each node of a latch a word with one case for each of the states.
        self._words = [0] * net.first_latch + state_words(states)
        self._searches = []
        self._line_counts = []
        # For each frame the number of states that can be met in it, and what has been learned of its latches.
        self._state_counts = []
        self._known = []
        self._lines = []

    def layer(self):
        """Adds a frame; returns lines which follow in turn behind those of the layers before.

        Behind them it follows that nodes are the same which have the same values in all states of this frame.
        """
        frame = len(self._searches)
        clauses = frame_clauses(self._net, 0)
        if frame == 0:
            clauses += start_clauses(self._net)
        self._searches.append(Search(self._net.node_count, clauses))
        self._line_counts.append(0)
        count = len([length for length in self._lengths.values() if length <= frame])
        self._state_counts.append(count)
        self._known.append([])
        self._lines = []
        latch_words = [word & mask_of(count) for word in self._words[self._net.first_latch:]]
        add_likes(self._net, self, latch_words, count)
        return self._lines

    def parting(self, x, y):
        """Returns a model of the last frame in which two literals differ; learns lines if there is none, or None."""
        for clause in same_clauses(x, y):
            model = self._prove(clause, len(self._searches) - 1)
            if model is not None:
                return model
        return None

    def _prove(self, claim, frame):
        """Learns lines from which a claim follows in a frame and returns None, or a model in a state that is met."""
        # Each entry: a claim, its frame, and the clause that follows from it in the next frame.
        waiting = [(claim, frame, None)]
        # As the cases of the last frame are in all its states, a claim about latches alone surely holds in these.
        if frame > 0 and self._is_about_latches(claim):
            waiting = [(next_claim(self._net, claim), frame - 1, claim)]
        while waiting:
            claim, frame, clause = waiting[-1]
            model = self._ask(claim, frame)
            if model is None:
                waiting.pop()
                if clause is not None:
                    # It follows by propagation alone, so it is no line.
                    self._searches[frame + 1].add_clause(clause)
                    self._known[frame + 1].append(clause)
            elif self._is_met(model, frame):
                return model
            else:
                # Its state is not met in this frame, and this follows from the frame before.
                missing = self._missing_clause(frame, model)
                waiting.append((next_claim(self._net, missing), frame - 1, missing))
        return None

    def _ask(self, claim, frame):
        """Returns a model of the frame in which the claim does not hold, or None; collects the lines learned."""
        search = self._searches[frame]
        model = search.model_under([literal ^ 1 for literal in claim])
        if model is None:
            # The last line says at least as much as the claim.
            search.add_clause(search.learned[-1])
        lines = search.learned[self._line_counts[frame]:]
        self._line_counts[frame] += len(lines)
        self._lines.extend([in_frame(self._net, line, frame) for line in lines])
        return model

    def _is_about_latches(self, claim):
        """Tells whether the claim is a clause of latches and the constant."""
        first, end = self._net.first_latch, self._net.first_and
        return all([literal < 2 or first <= literal // 2 < end for literal in claim])

    def _is_met(self, model, frame):
        """Tells whether the state of a model can be met in the frame."""
        state = tuple(model[self._net.first_latch:self._net.first_and])
        return state in self._lengths and self._lengths[state] <= frame

    def _holds(self, clause, frame):
        """Tells whether a clause of latches holds in all states that can be met in the frame."""
        mask = mask_of(self._state_counts[frame])
        word = 0
        for literal in clause:
            word |= word_of(self._words, literal, mask)
        return word & mask == mask

    def _missing_clause(self, frame, model):
        """Returns a clause of latches that does not hold in the model, but in all states that the frame can be in."""
        # What was of use in the frame before is likely to be so again.
        for clause in self._known[frame - 1]:
            if all([model[literal // 2] == literal & 1 for literal in clause]) and self._holds(clause, frame):
                return clause
        together = mask_of(self._state_counts[frame])
        literals = []
        while together:
            # The latch that sets most of the states apart from the model comes first.
            apart = [
                together & word_of(self._words, 2 * node + model[node], together)
                for node in range(self._net.first_latch, self._net.first_and)]
            counts = [_case_count_of(word) for word in apart]
            place = counts.index(max(counts))
            node = self._net.first_latch + place
            literals.append(2 * node + model[node])
            together ^= apart[place]
        return tuple(literals)


def _case_count_of(word):
    """Returns in how many cases the word has a 1."""
    digits = f"{word:b}"
    return digits.count("1")
