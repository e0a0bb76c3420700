"""Numbers that are told by sums of their multiples."""

from math import gcd

from swapsheets.base.numbers import reduced


def solution(rows, many):
    """The fractions that, times the first entries of each row and added up, make its last entry.

    Rows are lists of so many integers and a last one. None if there are no such fractions; there may
    not be several ones.
    """
    kept = []
    for row in rows:
        left = row
        for column, by in kept:
            left = _without(left, by, column)
        filled = [column for column in range(many) if left[column] != 0]
        if filled:
            kept = [(column, _without(other, left, filled[0])) for column, other in kept] + [(filled[0], left)]
        elif left[many] != 0:
            return None
    return [reduced(row[many], row[column]) for column, row in sorted(kept)]


def _without(row, by, column):
    """A multiple of a row and of another one, added up to have 0 at a column, without common divisors."""
    if row[column] == 0:
        return row
    made = [by[column] * here - row[column] * there for here, there in zip(row, by)]
    shared = 0
    for number in made:
        shared = gcd(shared, number)
    return [number // max(shared, 1) for number in made]
