"""Clauses, the literals that are true at present, and what these make true."""

# Chosen so that of two literals one is false and the other one is not true exactly if their sum is above 0.
OPEN = 0
FALSE = 1
TRUE = -2


class Trail:
    """The literals that have become true, in order, over clauses that can grow; its methods change it.

    The literals of level 0 are true without any assumption. Each further level begins with a decision. Every
    other literal has as its reason a clause whose other literals are false.
    """

    def __init__(self, count):
        self.worths = [OPEN] * (2 * count)
        self.literals = []
        self.reasons = [None] * count
        self.levels = [0] * count
        # The marks that the literals of the variables had when they were last true; at first all are complements.
        self.last_marks = [1] * count
        self._starts = []
        self._done = 0
        # For each literal: the clauses of two and of three literals that contain it, each behind its other literals.
        self._pairs = [[] for _ in range(2 * count)]
        self._triples = [[] for _ in range(2 * count)]
        # The longer clauses, each under the two literals at its front. A clause is looked at when one of them is
        # false, and then gets another one to its front.
        self._watched = [[] for _ in range(2 * count)]

    def level(self):
        """Returns the number of the last level."""
        return len(self._starts)

    def above_ground(self):
        """Returns the literals of all levels but level 0."""
        if not self._starts:
            return []
        return self.literals[self._starts[0]:]

    def attach(self, literals):
        """Takes in a clause of at least two literals; returns the list that stands for it from now on.

        The first two literals are open, or they are those that become open first when levels are taken back.
        """
        clause = list(literals)
        if len(clause) == 2:
            x, y = clause
            self._pairs[x].append((y, clause))
            self._pairs[y].append((x, clause))
        elif len(clause) == 3:
            x, y, z = clause
            self._triples[x].append((y, z, clause))
            self._triples[y].append((x, z, clause))
            self._triples[z].append((x, y, clause))
        else:
            self._watched[clause[0]].append(clause)
            self._watched[clause[1]].append(clause)
        return clause

    def drop(self, clauses):
        """Drops long clauses that attach returned; to be called at level 0, where no reason is asked for."""
        for clause in clauses:
            clause.clear()
        self._watched = [[kept for kept in row if kept] for row in self._watched]

    def begin_level(self):
        """Begins a new level."""
        self._starts.append(len(self.literals))

    def put(self, literal, reason):
        """Makes an open literal true."""
        self.worths[literal] = TRUE
        self.worths[literal ^ 1] = FALSE
        self.reasons[literal // 2] = reason
        self.levels[literal // 2] = len(self._starts)
        self.literals.append(literal)

    def back_to(self, level):
        """Takes back the levels above this one; returns the variables that are open again."""
        if level >= len(self._starts):
            return []
        start = self._starts[level]
        variables = []
        for literal in self.literals[start:]:
            self.worths[literal] = OPEN
            self.worths[literal ^ 1] = OPEN
            self.last_marks[literal // 2] = literal & 1
            variables.append(literal // 2)
        del self.literals[start:]
        del self._starts[level:]
        self._done = start
        return variables

    def propagate(self):
        """Makes true what follows; returns a clause all of whose literals are false, or None."""
        worths = self.worths
        while self._done < len(self.literals):
            false = self.literals[self._done] ^ 1
            self._done += 1
            for x, clause in self._pairs[false]:
                if worths[x] == OPEN:
                    self.put(x, clause)
                elif worths[x] == FALSE:
                    return clause
            for x, y, clause in self._triples[false]:
                worth = worths[x] + worths[y]
                if worth == FALSE:
                    self.put(x if worths[x] == OPEN else y, clause)
                elif worth > FALSE:
                    return clause
            clause = self._propagate_watched(false)
            if clause is not None:
                return clause
        return None

    def _propagate_watched(self, false):
        """Looks at the clauses that are watched under a false literal, and returns as propagate does."""
        worths = self.worths
        clauses = self._watched[false]
        staying = []
        self._watched[false] = staying
        for place, clause in enumerate(clauses):
            if clause[0] == false:
                clause[0], clause[1] = clause[1], false
            first = clause[0]
            if worths[first] == TRUE:
                staying.append(clause)
                continue
            for at in range(2, len(clause)):
                if worths[clause[at]] != FALSE:
                    clause[1], clause[at] = clause[at], false
                    self._watched[clause[1]].append(clause)
                    break
            else:
                staying.append(clause)
                if worths[first] == FALSE:
                    staying.extend(clauses[place + 1:])
                    return clause
                self.put(first, clause)
        return None
