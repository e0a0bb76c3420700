"""Characters of diagrams at lots."""
