"""Rows with a single cycle at one side."""
