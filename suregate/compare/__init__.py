"""Comparing two circuits."""
