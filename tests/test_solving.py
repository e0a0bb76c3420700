"""What the package shares to solve sums of multiples, which class formulas and formulas of power rows come from."""

import random
from fractions import Fraction

from support import Case, pair

from swapsheets.base.solving import solution


class TestSolving(Case):
    def test_one_solution(self):
        chance = random.Random(1)
        for many in range(1, 7):
            wanted = [Fraction(chance.randint(-9, 9), chance.randint(1, 6)) for _ in range(many)]
            rows = []
            for at in range(many + 3):
                # Each row has its own place filled, so all numbers are told.
                row = [chance.randint(-5, 5) if at >= many or other < at else int(other == at) for other in range(many)]
                last = sum([number * entry for number, entry in zip(row, wanted)])
                rows.append([entry * last.denominator for entry in row] + [last.numerator])
            chance.shuffle(rows)
            shown = repr(rows)
            self.same(solution(rows, many), [pair(number) for number in wanted])
            self.assertEqual(repr(rows), shown)
            rows[-1][many] += 1
            self.assertIs(solution(rows + [[0] * many + [0]], many) is None, solvable(rows, many) is False)

    def test_no_solution(self):
        self.assertIs(solution([[1, 2], [2, 5]], 1), None)
        self.assertIs(solution([[0, 1], [1, 0]], 1), None)
        self.same(solution([[0, 0], [3, 2], [6, 4]], 1), [(2, 3)])
        self.same(solution([[0, 2, 1], [4, 0, 1]], 2), [(1, 4), (1, 2)])


def solvable(rows, many):
    """Whether there are such numbers, by making rows simple one after the other."""
    left = [[Fraction(entry) for entry in row] for row in rows]
    for column in range(many):
        filled = [row for row in left if row[column]]
        if not filled:
            continue
        by = filled[0]
        left = [[here - there * row[column] / by[column] for here, there in zip(row, by)] for row in left if row is not by]
    return not any(row[many] for row in left)
