"""Cutting and joining of lots, and tales of strings."""
