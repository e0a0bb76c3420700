"""Moves of places, swaps, and rows of swaps."""
