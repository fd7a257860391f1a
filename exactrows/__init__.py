"""Exact statistics of rows of cells: each number told is the exact one, rounded once."""
