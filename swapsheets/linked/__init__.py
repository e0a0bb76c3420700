"""Connected numbers."""
