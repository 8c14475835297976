"""Clauses: unit propagation, and the search that learns."""
