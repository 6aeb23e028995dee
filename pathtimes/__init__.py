"""Formulas of time over systems of states."""
