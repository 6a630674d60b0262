"""Halveline: one line that halves two heaps of points at once."""
