"""Walks among kinds, by any number of swaps."""
