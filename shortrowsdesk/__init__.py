"""Brainrows: short floating numbers in rows, matrices and nets."""
