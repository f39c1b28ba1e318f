"""Stepcells: rows of a small machine, laid out in cells."""
