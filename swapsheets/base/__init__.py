"""What all else stands on: exact numbers and formulas."""
