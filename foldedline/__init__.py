"""Rounds of a folded line."""
