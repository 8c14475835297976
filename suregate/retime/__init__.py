"""Retiming: latches that move over ands."""
