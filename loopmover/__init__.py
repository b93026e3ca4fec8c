"""Loopmover: rows that needn't be done in every round go ahead of their loop."""
