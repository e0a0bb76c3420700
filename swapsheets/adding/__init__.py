"""Contents of squares, and sums of moves."""
