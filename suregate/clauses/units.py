"""Unit propagation over a list of clauses, and lines that follow by it."""


class Units:
    """A list of clauses that can grow.

    What is true without any assumption is kept as known. A question adds what its assumptions make true,
    and takes it out again.
    """

    def __init__(self, clauses):
        self._known = {}
        self._broken = False
        # For each literal: what its being false leaves of the clauses of two and of three literals that contain it.
        self._pairs = {}
        self._triples = {}
        # The longer clauses, each under the two literals at its front. A clause is looked at when one of them is
        # false, and then gets another one to its front. Which ones stand there makes no difference to any answer.
        self._watched = {}
        for clause in clauses:
            self.add_clause(clause)

    def add_clause(self, clause):
        """Appends a clause; changes the object."""
        literals = self._open_literals(clause)
        if self._broken or literals is None:
            return
        if len(literals) == 0:
            self._broken = True
        elif len(literals) == 1:
            conflict, _ = self._assume(literals)
            self._broken = conflict
        elif len(literals) < 4:
            self._add_short(literals)
        else:
            self._watched.setdefault(literals[0], []).append(literals)
            self._watched.setdefault(literals[1], []).append(literals)

    def spread(self, literals):
        """Returns whether propagation from the assumed literals ends in a conflict, and otherwise what is true then."""
        if self._broken:
            return True, []
        conflict, found = self._assume(literals)
        known = [] if conflict else sorted(self._known)
        self._forget(found)
        return conflict, known

    def follows(self, line):
        """Tells whether the line follows from the clauses."""
        if self._broken:
            return True
        conflict, found = self._assume([literal ^ 1 for literal in line])
        self._forget(found)
        return conflict

    def _open_literals(self, clause):
        """Returns the literals of the clause that are open, in order, or None if it can never say anything."""
        literals = []
        for literal in sorted(set(clause)):
            if literal in self._known or (literals and literals[-1] == literal ^ 1):
                return None
            if literal ^ 1 not in self._known:
                literals.append(literal)
        return literals

    def _add_short(self, literals):
        """Adds a clause of two or three literals."""
        if len(literals) == 2:
            x, y = literals
            self._pairs.setdefault(x, []).append(y)
            self._pairs.setdefault(y, []).append(x)
        else:
            x, y, z = literals
            self._triples.setdefault(x, []).append((y, z))
            self._triples.setdefault(y, []).append((x, z))
            self._triples.setdefault(z, []).append((x, y))

    def _forget(self, literals):
        """Takes out again what a question has made true."""
        for literal in literals:
            del self._known[literal]

    def _assume(self, literals):
        """Makes the literals true and propagates; returns whether this ends in a conflict, and all that became true."""
        found = []
        for literal in literals:
            if literal ^ 1 in self._known:
                return True, found
            if literal not in self._known:
                self._known[literal] = True
                found.append(literal)
        return self._propagate(found), found

    def _propagate(self, found):
        """Appends to the found literals what they make true; returns whether this ends in a conflict."""
        known = self._known
        done = 0
        while done < len(found):
            false = found[done] ^ 1
            done += 1
            for x in self._pairs.get(false, ()):
                if x not in known:
                    if x ^ 1 in known:
                        return True
                    known[x] = True
                    found.append(x)
            for x, y in self._triples.get(false, ()):
                if x in known or y in known:
                    continue
                if x ^ 1 in known:
                    if y ^ 1 in known:
                        return True
                    known[y] = True
                    found.append(y)
                elif y ^ 1 in known:
                    known[x] = True
                    found.append(x)
            if false in self._watched and self._propagate_watched(false, found):
                return True
        return False

    def _propagate_watched(self, false, found):
        """Looks at the clauses that are watched under a false literal; returns whether this ends in a conflict."""
        known = self._known
        clauses = self._watched.pop(false)
        staying = []
        for place, literals in enumerate(clauses):
            if literals[0] == false:
                literals[0], literals[1] = literals[1], false
            first = literals[0]
            if first in known:
                staying.append(literals)
                continue
            for at in range(2, len(literals)):
                if literals[at] ^ 1 not in known:
                    literals[1], literals[at] = literals[at], false
                    self._watched.setdefault(literals[1], []).append(literals)
                    break
            else:
                staying.append(literals)
                if first ^ 1 in known:
                    self._watched[false] = staying + clauses[place + 1:]
                    return True
                known[first] = True
                found.append(first)
        self._watched[false] = staying
        return False


def first_unfounded(clauses, lines):
    """Returns the index of the first line that does not follow from the clauses and the lines before it, or None."""
    units = Units(clauses)
    for index, line in enumerate(lines):
        if not units.follows(line):
            return index
        units.add_clause(line)
    return None
