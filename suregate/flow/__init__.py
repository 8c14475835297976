"""Flows: steps applied to a circuit, one after the other."""
