"""Lots and their diagrams."""
