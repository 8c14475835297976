"""Circuits, nets, builders and joint nets."""
