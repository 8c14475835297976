"""Questions about the values of two literals in one cycle."""

from suregate.clauses.search import Search
from suregate.frames.frames import frame_clauses, same_clauses


class Likeness:
    """Tells whether literals of a net have the same value wherever some clauses hold; keeps the lines it learns."""

    def __init__(self, net, clauses):
        self._finder = Search(net.node_count, frame_clauses(net, 0) + clauses)

    def parting(self, x, y):
        """Returns a model in which the two literals have different values, or None; changes the object."""
        for clause in same_clauses(x, y):
            model = self.model_against(clause)
            if model is not None:
                return model
        return None

    def model_against(self, clause):
        """Returns a model in which a clause does not hold, or None if it follows behind the lines; changes the object.
        """
        model = self._finder.model_under([literal ^ 1 for literal in clause])
        if model is None:
            # The last line says at least as much as the clause. With it, later questions are easier to answer.
            self._finder.add_clause(self._finder.learned[-1])
        return model

    def lines_since(self, count):
        """Returns the lines learned so far without the first so many."""
        return self._finder.learned[count:]
