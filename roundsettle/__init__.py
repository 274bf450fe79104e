"""Tournaments round by round, with papers from which the answers can be seen."""
