"""Covers of a torus."""
