"""A desk for rows of swaps."""
