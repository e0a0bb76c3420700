"""Swapsheets: rows of swaps between moves of told kinds, counted in every way."""
