"""Evenscales: rows of equations solved exactly, in fractions."""
