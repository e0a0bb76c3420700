"""Rising and strict rows, and weights of rows."""
