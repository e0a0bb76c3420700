"""Least rows of moves."""
