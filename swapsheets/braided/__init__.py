"""Braid moves of rows of swaps."""
