"""Circuits and what belongs to them, written as text and read back."""
