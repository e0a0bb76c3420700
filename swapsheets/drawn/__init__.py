"""Drawings, and what counts them."""
