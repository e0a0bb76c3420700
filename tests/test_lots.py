"""Stage 3: lots and diagrams [3.1] to [3.7], and [0.9], [0.12] as far as they speak of lots."""

import itertools
import math

from support import ANY_VALUES, LONG, NO_INTEGERS, NO_TUPLES, Case

from swapsheets.errors import InvalidCount, InvalidLot, InvalidOperation
from swapsheets.squares import lots as module
from swapsheets.squares.lots import beads, class_size, conjugate, content_sum, contents, dimension, filled_number, hook
from swapsheets.squares.lots import hooks_product, is_above, is_lot, keepers, less_square, lot_of_beads, lots
from swapsheets.squares.lots import more_square, renamings, rims, squares_of

EXAMPLES = """
>>> [lots(4), keepers((3, 1, 1)), renamings((2, 2, 1)), class_size((3, 1)), is_lot((1, 2))]
[((1, 1, 1, 1), (2, 1, 1), (2, 2), (3, 1), (4,)), 6, 2, 8, False]
>>> [conjugate((4, 2, 1)), squares_of((2, 1)), contents((3, 1)), content_sum((3, 1)), hook((3, 1), (0, 0)), dimension((3, 1))]
[(3, 2, 1, 1), ((0, 0), (0, 1), (1, 0)), (0, 1, 2, -1), 2, 4, 3]
>>> [less_square((3, 1)), more_square((3, 1)), beads((3, 1), 3), lot_of_beads((5, 2, 0)), rims((3, 1), 2), rims((2, 2), 2)]
[((2, 1), (3,)), ((3, 1, 1), (3, 2), (4, 1)), (5, 2, 0), (3, 1), (((1, 1), 1),), (((1, 1), -1), ((2,), 1))]
>>> [filled_number((2, 1), 2), filled_number((1, 1, 1), 2), is_above((3, 1), (2, 2)), is_above((3, 1, 1, 1), (2, 2, 2))]
[2, 0, True, False]
>>> hook((3, 1), (1, 1))
raises InvalidOperation
"""
NO_LOTS = NO_TUPLES + (
    (0,), (1, 0), (-1,), (2, -1), (1, 2), (3, 1, 2), (True,), (2, True), (1, False), (None,), ("a",), (1, "1"), ((1,),),
    (25,), (24, 1), (1,) * 25, (13, 12), (LONG,), (10 ** 99, 1), (LONG - 1,), (2, [1]), ([],), ((),), (1.0,),
)
SMALL = [lot for total in range(7) for lot in lots(total)]


def kind_of_move(move):
    """The lengths of the cycles, counted in another way: by the places that powers of the move leave."""
    lengths = []
    for place in range(len(move)):
        at, length = move[place], 1
        while at != place:
            at, length = move[at], length + 1
        lengths.append(length)
    return tuple(sorted([length for length in set(lengths) for _ in range(lengths.count(length) // length)])[::-1])


def is_strip(more, less):
    """Whether the squares that are in one diagram and not in the other one are a rim: joined, no 2 by 2 block."""
    squares = set(squares_of(more)) - set(squares_of(less))
    if not set(squares_of(less)) <= set(squares_of(more)):
        return False
    if any({(row + 1, column), (row, column + 1), (row + 1, column + 1)} <= squares for row, column in squares):
        return False
    seen, waiting = set(), sorted(squares)[:1]
    while waiting:
        row, column = waiting.pop()
        if (row, column) in squares - seen:
            seen.add((row, column))
            waiting += [(row + 1, column), (row - 1, column), (row, column + 1), (row, column - 1)]
    return seen == squares


class TestLots(Case):
    def test_examples(self):
        self.runs(EXAMPLES, dict(vars(module)))

    def test_constants(self):
        self.same((module.MAX_SUM, module.MAX_BEADS, module.MAX_FILLED), (24, 40, 60))

    def test_lots(self):
        self.same(lots(0), ((),))
        self.same(lots(1), ((1,),))
        for total in range(9):
            tried = [some for many in range(total + 1) for some in itertools.product(range(1, total + 1), repeat=many)
                     if sum(some) == total and list(some) == sorted(some, reverse=True)]
            self.same(lots(total), tuple(sorted(tried)))
        self.assertEqual([len(lots(total)) for total in (10, 14, 20, 24)], [42, 135, 627, 1575])
        self.same(list(lots(24)), sorted(set(lots(24))))
        self.assertTrue(all([is_lot(lot) and sum(lot) == 24 for lot in lots(24)]))
        self.refuses_in_order(lots, (3, InvalidCount, (-1, 25) + NO_INTEGERS))

    def test_is_lot(self):
        right = SMALL + [(24,), (1,) * 24, (12, 12), (23, 1)]
        self.judges(is_lot, right, NO_LOTS)
        for value in ANY_VALUES:
            self.assertIsInstance(is_lot(value), bool)

    def test_every_function_refuses_what_is_no_lot(self):
        for call in (keepers, renamings, class_size, conjugate, squares_of, contents, content_sum, hooks_product,
                     dimension, less_square, more_square):
            self.refuses_in_order(call, ((2, 1), InvalidLot, NO_LOTS))

    def test_errors_in_order(self):
        wrong = NO_TUPLES + ((), (0,), (0, 0, 0), (1, 1), (0, 3), (2, 0), (-1, 0), (0, True), (False, 0), (None, 0))
        self.refuses_in_order(hook, ((3, 1), InvalidLot, NO_LOTS), ((0, 2), InvalidOperation, wrong))
        self.refuses_in_order(beads, ((3, 1), InvalidLot, NO_LOTS), (2, InvalidCount, (1, 41, 0) + NO_INTEGERS))
        self.refuses_in_order(rims, ((3, 1), InvalidLot, NO_LOTS), (24, InvalidCount, (0, 25) + NO_INTEGERS))
        self.refuses_in_order(filled_number, ((3, 1), InvalidLot, NO_LOTS),
                              (60, InvalidCount, (-1, 61) + NO_INTEGERS))
        self.refuses_in_order(is_above, ((3, 1), InvalidLot, NO_LOTS), ((2, 2), InvalidLot, NO_LOTS))
        self.refuses(InvalidOperation, is_above, (3, 1), (3, 2))
        self.refuses(InvalidOperation, is_above, (), (1,))

    def test_keepers_by_moves_that_commute(self):
        for total in range(1, 6):
            every = list(itertools.permutations(range(total)))
            for lot in lots(total):
                alike = [move for move in every if kind_of_move(move) == lot]
                move = alike[0]
                commuting = [other for other in every
                             if [move[place] for place in other] == [other[place] for place in move]]
                self.same(class_size(lot), len(alike))
                self.same(keepers(lot), len(commuting))

    def test_keepers_and_renamings(self):
        self.same((keepers(()), renamings(()), class_size(())), (1, 1, 1))
        self.same((keepers((1,) * 24), renamings((1,) * 24), class_size((1,) * 24)),
                  (math.factorial(24), math.factorial(24), 1))
        self.same((keepers((24,)), renamings((24,)), class_size((24,))), (24, 1, math.factorial(23)))
        self.same((renamings((5, 3, 3, 3, 1, 1)), keepers((5, 3, 3, 3, 1, 1))), (12, 5 * 27 * 12))
        for total in (8, 15):
            self.assertEqual(sum([class_size(lot) for lot in lots(total)]), math.factorial(total))

    def test_conjugate_and_squares(self):
        for lot in SMALL + [(24,), (1,) * 24, (8, 7, 5, 2, 2)]:
            wanted = sorted([(row, column) for row in range(len(lot)) for column in range(24) if column < lot[row]])
            self.same(squares_of(lot), tuple(wanted))
            turned = tuple(sorted([(column, row) for row, column in wanted]))
            self.same(squares_of(conjugate(lot)), turned)
            self.same(conjugate(conjugate(lot)), lot)
            self.same(contents(lot), tuple([column - row for row, column in wanted]))
            self.same(content_sum(lot), sum(contents(lot)))
            self.assertEqual(sorted(contents(conjugate(lot))), sorted([-content for content in contents(lot)]))
            halves = [sum([member * (member - 1) // 2 for member in one]) for one in (lot, conjugate(lot))]
            self.assertEqual(content_sum(lot), halves[0] - halves[1])

    def test_hooks(self):
        for lot in SMALL + [(5, 5, 4, 1), (24,), (1,) * 24]:
            squares, made = squares_of(lot), 1
            for row, column in squares:
                wanted = [one for one in squares
                          if one[0] == row and one[1] >= column or one[1] == column and one[0] > row]
                self.same(hook(lot, (row, column)), len(wanted))
                made *= len(wanted)
            self.same(hooks_product(lot), made)
            self.assertEqual(dimension(lot) * made, math.factorial(sum(lot)))

    def test_dimension_by_numbered_squares(self):
        for lot in [lot for lot in SMALL if sum(lot) <= 5]:
            squares, ways = squares_of(lot), 0
            for order in itertools.permutations(range(sum(lot))):
                at = dict(zip(squares, order))
                ways += all([at[one] < at[other] for one in squares
                             for other in ((one[0] + 1, one[1]), (one[0], one[1] + 1)) if other in at])
            self.same(dimension(lot), ways)

    def test_dimension_by_squares_less_and_more(self):
        for total in (0, 1, 2, 7, 11):
            for lot in lots(total):
                if total:
                    self.assertEqual(dimension(lot), sum([dimension(less) for less in less_square(lot)]))
                self.assertEqual((total + 1) * dimension(lot), sum([dimension(more) for more in more_square(lot)]))
            self.assertEqual(sum([dimension(lot) ** 2 for lot in lots(total)]), math.factorial(total))

    def test_one_square_less_and_more(self):
        for lot in SMALL:
            total, own = sum(lot), set(squares_of(lot))
            if total:
                less = [one for one in lots(total - 1) if set(squares_of(one)) <= own]
                self.same(less_square(lot), tuple(less))
            self.same(more_square(lot), tuple([one for one in lots(total + 1) if set(squares_of(one)) >= own]))
        self.same((less_square(()), more_square(())), ((), ((1,),)))
        self.same(less_square((12, 12)), ((12, 11),))
        for lot in ((24,), (1,) * 24):
            self.refuses(InvalidOperation, more_square, lot)
        self.same(more_square((23,)), ((23, 1), (24,)))

    def test_beads(self):
        for lot in SMALL + [(24,), (1,) * 24]:
            for rows in range(len(lot), 41):
                found = beads(lot, rows)
                padded = lot + (0,) * (rows - len(lot))
                self.same(found, tuple([padded[at] + rows - 1 - at for at in range(rows)]))
                self.same(lot_of_beads(found), lot)
        self.same((beads((), 0), lot_of_beads(())), ((), ()))
        self.same((lot_of_beads((24,)), lot_of_beads(tuple(range(39, -1, -1)))), ((24,), ()))

    def test_errors_of_lot_of_beads(self):
        wrong = NO_TUPLES + (
            (25,), (26, 0), (1, 1), (1, 2), (-1,), (2, -1), (True,), (1, False), (None,), ("a",), (LONG,), (1, None),
            tuple(range(40, -1, -1)), ((1,),), (LONG - 1, 1), (14, 13),
        )
        self.refuses_in_order(lot_of_beads, ((5, 2, 0), InvalidOperation, wrong))

    def test_rims_by_squares(self):
        for lot in SMALL + [(4, 4, 2), (5, 3, 1, 1)]:
            for length in range(1, sum(lot) + 1):
                wanted = []
                for less in lots(sum(lot) - length):
                    if is_strip(lot, less):
                        rows = {row for row, _ in set(squares_of(lot)) - set(squares_of(less))}
                        wanted.append((less, (-1) ** (len(rows) - 1)))
                self.same(rims(lot, length), tuple(wanted))
                hooks = [square for square in squares_of(lot) if hook(lot, square) == length]
                self.assertEqual(len(rims(lot, length)), len(hooks))
            self.same(rims(lot, sum(lot) + 1), ())
        self.same((rims((24,), 24), rims((1,) * 24, 24), rims((), 1)), ((((), 1),), (((), -1),), ()))

    def test_rims_by_beads_of_any_number_of_rows(self):
        for lot in ((3, 1), (2, 2, 1), (4, 2, 1), (1,)):
            for rows in range(len(lot), len(lot) + 3):
                for length in range(1, 8):
                    spots, found = beads(lot, rows), []
                    for bead in spots:
                        if bead >= length and bead - length not in spots:
                            rest = [one for one in spots if one != bead] + [bead - length]
                            sign = (-1) ** len([one for one in spots if bead - length < one < bead])
                            found.append((lot_of_beads(tuple(sorted(rest, reverse=True))), sign))
                    self.same(rims(lot, length), tuple(sorted(found)))

    def test_filled_number_by_fillings(self):
        for lot in [lot for lot in SMALL if sum(lot) <= 5]:
            squares = squares_of(lot)
            for number in range(5 if sum(lot) < 5 else 4):
                ways = 0
                for filling in itertools.product(range(number), repeat=len(squares)):
                    at = dict(zip(squares, filling))
                    ways += all([at[row, column] <= at.get((row, column + 1), number) for row, column in squares]
                                + [at[row, column] < at.get((row + 1, column), number) for row, column in squares])
                self.same(filled_number(lot, number), ways)
        for total in (0, 1, 6, 9):
            for number in (0, 1, 3, 60):
                added = sum([filled_number(lot, number) * dimension(lot) for lot in lots(total)])
                self.assertEqual(added, number ** total)
        self.same(filled_number((24,), 60), math.comb(83, 24))
        self.same(filled_number((1,) * 24, 60), math.comb(60, 24))

    def test_is_above(self):
        for total in range(8):
            for one in lots(total):
                for other in lots(total):
                    wanted = all([sum(one[:many]) >= sum(other[:many]) for many in range(1, total + 2)])
                    self.assertIs(is_above(one, other), wanted)
                    self.assertIs(is_above(conjugate(other), conjugate(one)), wanted)
        self.same([is_above((3, 1, 1, 1), (2, 2, 2)), is_above((2, 2, 2), (3, 1, 1, 1))], [False, False])

    def test_what_is_not_true(self):
        # Equal dimensions of lots that are neither equal nor conjugate.
        found = [(one, other) for one in lots(6) for other in lots(6)
                 if dimension(one) == dimension(other) and other not in (one, conjugate(one))]
        self.assertTrue(found)
