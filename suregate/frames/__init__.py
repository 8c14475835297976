"""The clauses of the cycles of a net."""
