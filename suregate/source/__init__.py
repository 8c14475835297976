"""Designs of words: a small language for circuits."""
