"""Sweeping: one node for each function."""
