"""Kinds of moves, and their products."""
