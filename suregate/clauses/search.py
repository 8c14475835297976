"""The search that learns: models of clauses, or lines which show that there is none."""

from suregate.clauses.order import Order
from suregate.clauses.trail import FALSE, OPEN, TRUE, Trail

# The search starts anew after so many conflicts, and then each time after a tenth more.
FIRST_PATIENCE = 64
# So many long learned clauses are kept in mind, and then each time a tenth more.
FIRST_MEMORY = 1000


class Search:
    """Answers one question after another over clauses that can grow, and keeps the lines that it learns."""

    def __init__(self, count, clauses):
        self.learned = []
        self._trail = Trail(count)
        self._order = Order(count)
        self._broken = False
        self._memory = FIRST_MEMORY
        # The long learned clauses that are still in use, each behind its number of levels.
        self._in_use = []
        for clause in clauses:
            self.add_clause(clause)

    def add_clause(self, clause):
        """Appends a clause; changes the object."""
        worths = self._trail.worths
        literals = []
        for literal in sorted(set(clause)):
            if worths[literal] == TRUE or (literals and literals[-1] == literal ^ 1):
                return
            if worths[literal] == OPEN:
                literals.append(literal)
        if len(literals) > 1:
            self._trail.attach(literals)
        elif len(literals) == 1:
            self._trail.put(literals[0], None)
        else:
            self._broken = True

    def model_under(self, assumed):
        """Returns a model of the clauses and the assumed literals, or None; changes the object."""
        model = None
        line = () if self._broken else self._search(assumed)
        if line is None:
            model = [1 if worth == TRUE else 0 for worth in self._trail.worths[::2]]
        elif not self.learned or self.learned[-1] != line:
            self.learned.append(line)
        self._back_to(0)
        return model

    def _search(self, assumed):
        """Makes a model true and returns None, or returns the last line if there is no model."""
        conflicts = 0
        patience = FIRST_PATIENCE
        while True:
            clause = self._trail.propagate()
            if clause is not None:
                if self._trail.level() == 0:
                    self._broken = True
                    return ()
                self._learn_from(clause)
                conflicts += 1
            elif conflicts >= patience:
                conflicts = 0
                patience += patience // 10
                self._start_anew()
            elif self._trail.level() < len(assumed):
                literal = assumed[self._trail.level()]
                if self._trail.worths[literal] == FALSE:
                    return self._line_against(literal)
                self._assume(literal)
            elif not self._decide():
                return None

    def _assume(self, literal):
        """Begins a level with an assumed literal that is not false."""
        self._trail.begin_level()
        if self._trail.worths[literal] == OPEN:
            self._trail.put(literal, None)

    def _decide(self):
        """Begins a level with an open literal; returns False if there is none."""
        variable = self._order.take()
        while variable is not None:
            if self._trail.worths[2 * variable] == OPEN:
                self._trail.begin_level()
                self._trail.put(2 * variable + self._trail.last_marks[variable], None)
                return True
            variable = self._order.take()
        return False

    def _back_to(self, level):
        """Takes back the levels above this one."""
        self._order.give_back(self._trail.back_to(level))

    def _start_anew(self):
        """Takes back all decisions; drops the worse half of the long learned clauses if there are many."""
        self._back_to(0)
        if len(self._in_use) > self._memory:
            self._memory += self._memory // 10
            ranked = sorted(self._in_use, key=lambda entry: entry[0])
            half = len(ranked) // 2
            self._in_use = ranked[:half]
            self._trail.drop([clause for _, clause in ranked[half:]])

    def _learn_from(self, clause):
        """Learns a line from a clause whose literals are all false, and takes back levels until the line says more."""
        levels = self._trail.levels
        result, others = self._resolve(clause)
        others = sorted(others, key=lambda literal: -levels[literal // 2])
        line = (result, *others)
        level_count = len(set([levels[literal // 2] for literal in line]))
        self.learned.append(line)
        self._back_to(levels[others[0] // 2] if others else 0)
        reason = None
        if others:
            reason = self._trail.attach(line)
            if len(line) > 3:
                self._in_use.append((level_count, reason))
        self._trail.put(result, reason)

    def _resolve(self, clause):
        """Returns the false literals of a line that follows: the only one of the last level, and the others.

        The false literals of the last level are replaced by those that made them false, the latest one first,
        until one of them is left.
        """
        trail = self._trail
        last_level = trail.level()
        marked = {}
        others = []
        waiting = 0
        place = len(trail.literals)
        while True:
            for literal in clause:
                variable = literal // 2
                if variable not in marked and trail.levels[variable] > 0:
                    marked[variable] = True
                    if trail.levels[variable] == last_level:
                        waiting += 1
                    else:
                        others.append(literal)
            place -= 1
            while trail.literals[place] // 2 not in marked:
                place -= 1
            waiting -= 1
            if waiting == 0:
                break
            clause = trail.reasons[trail.literals[place] // 2]
        self._order.reward(marked)
        return trail.literals[place] ^ 1, [literal for literal in others if self._adds_to(literal, marked)]

    def _adds_to(self, literal, marked):
        """Tells whether a false literal was decided, or made false by one that is not among the marked variables."""
        reason = self._trail.reasons[literal // 2]
        if reason is None:
            return True
        levels = self._trail.levels
        return any([other // 2 not in marked and levels[other // 2] > 0 for other in reason])

    def _line_against(self, literal):
        """Returns the complements of the assumed literals that make this assumed literal false, and of itself."""
        marked = {literal // 2: True}
        line = [literal ^ 1]
        for other in reversed(self._trail.above_ground()):
            if other // 2 in marked:
                reason = self._trail.reasons[other // 2]
                if reason is None:
                    line.append(other ^ 1)
                else:
                    marked.update({cause // 2: True for cause in reason})
        return tuple(line)


def decide(count, clauses, assumed):
    """Returns a model of the clauses and the assumed literals, or lines which show that there is none."""
    search = Search(count, clauses)
    model = search.model_under(assumed)
    if model is None:
        return "lines", search.learned
    return "model", model
