"""Runs of circuits, one at a time or many at once."""
