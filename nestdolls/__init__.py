"""Nestdolls: hollow dolls within one another, on a table of few spots."""
