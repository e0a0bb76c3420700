"""Stage 4: moves, swaps and rows [4.1] to [4.6], and [0.10], [0.11], [0.15] as far as they speak of them."""

import itertools
import math
import types

from support import ANY_VALUES, LONG, NO_INTEGERS, NO_TUPLES, NO_WORDS, Case, first_of
from test_lots import NO_LOTS, kind_of_move

from swapsheets.errors import InvalidCount, InvalidLot, InvalidMove, InvalidRow, InvalidSwap, UnknownName
from swapsheets.moving import moves as module
from swapsheets.moving.moves import behind, cycles, first_move, is_move, is_rising, is_row, is_row_of, is_strict, is_swap
from swapsheets.moving.moves import kind_of, least_number, moves, parity, renamed, row_number, row_of, row_product
from swapsheets.moving.moves import strict_row, swap_move, undone
from swapsheets.squares.lots import lots

EXAMPLES = """
>>> ROUND, BENT = (1, 2, 0, 3), (1, 0, 3, 2)
>>> [behind(ROUND, BENT), behind(BENT, ROUND), undone(ROUND), renamed(ROUND, BENT), cycles((3, 4, 2, 1, 0)), kind_of((3, 4, 2, 1, 0))]
[(0, 3, 1, 2), (2, 1, 3, 0), (2, 0, 1, 3), (3, 0, 2, 1), ((0, 3, 1, 4), (2,)), (4, 1)]
>>> [swap_move(4, (1, 3)), row_product(4, ((0, 1), (1, 2))), strict_row(ROUND), strict_row(BENT), least_number(BENT), parity(ROUND), first_move((3, 2, 1))]
[(0, 3, 2, 1), (2, 0, 1, 3), ((0, 1), (0, 2)), ((0, 1), (2, 3)), 2, 0, (1, 2, 0, 4, 3, 5)]
>>> [is_rising(4, ((0, 2), (1, 2))), is_strict(4, ((0, 2), (1, 2))), is_row_of(ROUND, ((0, 1), (0, 2))), row_of(ROUND, 3), [row_number(4, 2, word) for word in ("all", "rising", "strict")]]
[True, False, True, None, [36, 25, 11]]
>>> behind(ROUND, (1, 0))
raises InvalidMove
"""
NO_MOVES = NO_TUPLES + (
    (), (1,), (-1,), (0, 0), (1, 2), (0, 2), (0, -1), (True,), (False,), (False, True), (0, True), (None,), ("a",),
    (0, "1"), (0, 1, 1), (LONG,), (0, LONG), ((0,),), ((0, 1),), tuple(range(25)), (0, [1]), (0.0,), (0, 1, None),
)
NO_SIZES = (0, 25, -1) + NO_INTEGERS
# No swaps of four places.
NO_SWAPS = NO_TUPLES + (
    (), (0,), (0, 1, 2), (1, 0), (1, 1), (0, 4), (-1, 0), (True, 2), (False, 1), (0, True), (0, None), (None, 1),
    ("0", "1"), (0, "1"), (0, LONG), (-LONG, 0), ((0, 1),), ((0, 1), (1, 2)), (0, [1]), (0, 1.0),
)
# No rows of four places.
NO_ROWS = NO_TUPLES + (
    (0,), (0, 1), ((0, 4),), ((1, 0),), ((0, 1), (1, 1)), ((0, 1), None), ((0, True),), ([0, 1],), (((0, 1),),),
    ((0, 1, 2),), ((0, 1), ()), ((0, 1),) * 201, ("ab",), ((0, LONG),), ((-1, 1),), [(0, 1)],
)


def every(size):
    return list(itertools.permutations(range(size)))


def swaps(size):
    return [(low, high) for low in range(size) for high in range(low + 1, size)]


def rows(size, many):
    return itertools.product(swaps(size), repeat=many)


def product_by_swaps(size, row):
    """The product of a row, place by place."""
    made = []
    for place in range(size):
        for low, high in row:
            place = high if place == low else low if place == high else place
        made.append(place)
    return tuple(made)


class TestMoves(Case):
    def test_examples(self):
        self.runs(EXAMPLES, dict(vars(module)))

    def test_constants(self):
        self.same((module.MOST_PLACES, module.MOST_LISTED, module.MOST_ROW), (24, 7, 200))

    def test_is_move(self):
        right = [move for size in range(1, 6) for move in every(size)] + [tuple(range(24)), tuple(range(23, -1, -1))]
        self.judges(is_move, right, NO_MOVES)

    def test_is_swap(self):
        for size in (1, 2, 4, 24):
            self.judges(lambda value: is_swap(size, value), swaps(size), ((0, size), (size, size + 1), (1, 0)))
        self.judges(lambda value: is_swap(4, value), (), NO_SWAPS)
        self.assertIs(is_swap(1, (0, 0)), False)

    def test_is_row(self):
        right = [(), ((0, 1),), ((2, 3),) * 200] + list(rows(4, 2))
        self.judges(lambda value: is_row(4, value), right, NO_ROWS)
        self.judges(lambda value: is_row(1, value), [()], [((0, 0),), ((0, 1),)])

    def test_rising_and_strict(self):
        for many in range(4):
            for row in rows(4, many):
                high = [swap[1] for swap in row]
                self.assertIs(is_rising(4, row), high == sorted(high))
                self.assertIs(is_strict(4, row), high == sorted(set(high)))
        for judge in (is_rising, is_strict):
            self.judges(lambda value: judge(4, value), [()], NO_ROWS)
        self.assertIs(is_rising(2, ((0, 1),) * 200), True)
        self.assertIs(is_rising(2, ((0, 1),) * 201), False)

    def test_judges_accept_every_value_and_check_sizes(self):
        for judge in (is_swap, is_row, is_rising, is_strict):
            for value in ANY_VALUES:
                self.assertIsInstance(judge(5, value), bool)
                self.refuses(InvalidCount, judge, 0, value, kept=(0,))
            for size in NO_SIZES:
                self.refuses(InvalidCount, judge, size, (), kept=(size,))
        for value in ANY_VALUES:
            self.assertIsInstance(is_move(value), bool)
            self.assertIsInstance(is_row_of((1, 0), value), bool)

    def test_moves(self):
        for size in range(1, 8):
            self.same(list(moves(size)), every(size))
        self.assertIsInstance(moves(3), types.GeneratorType)
        self.refuses_in_order(first_of(moves), (7, InvalidCount, (0, 8, -1) + NO_INTEGERS))
        # The error comes with the first result, not with the call.
        late = moves(8)
        self.refuses(InvalidCount, next, late, kept=(8,))

    def test_behind_undone_and_renamed(self):
        for size in range(1, 5):
            for one in every(size):
                back = undone(one)
                self.same(behind(one, back), tuple(range(size)))
                self.same(behind(back, one), tuple(range(size)))
                for other in every(size):
                    self.same(behind(one, other), tuple([other[one[place]] for place in range(size)]))
                    found = renamed(one, other)
                    self.assertTrue(all([found[other[place]] == other[one[place]] for place in range(size)]))
                    self.assertIsInstance(found, tuple)
                    self.assertEqual(kind_of(found), kind_of(one))
        alike = sorted(set([renamed((1, 0, 2, 3), other) for other in every(4)]))
        self.same(alike, [move for move in every(4) if kind_of(move) == (2, 1, 1)])

    def test_errors_of_moves(self):
        for call in (undone, cycles, kind_of, least_number, parity, strict_row):
            self.refuses_in_order(call, ((1, 0, 2), InvalidMove, NO_MOVES))
        for call in (behind, renamed):
            self.refuses_in_order(call, ((1, 0, 2), InvalidMove, NO_MOVES),
                                  ((0, 2, 1), InvalidMove, NO_MOVES + ((0, 1), (0,), (0, 1, 2, 3))))

    def test_cycles_and_kinds(self):
        for size in range(1, 7):
            for move in every(size):
                found = cycles(move)
                self.same(list(found), sorted(found))
                self.assertEqual(sorted([place for cycle in found for place in cycle]), list(range(size)))
                for cycle in found:
                    self.assertIsInstance(cycle, tuple)
                    self.assertEqual(cycle[0], min(cycle))
                    self.assertTrue(all([move[place] == cycle[(at + 1) % len(cycle)] for at, place in enumerate(cycle)]))
                self.same(kind_of(move), kind_of_move(move))
        self.same(cycles(tuple(range(24))), tuple([(place,) for place in range(24)]))

    def test_first_move(self):
        for lot in [lot for total in range(1, 9) for lot in lots(total)] + [(24,), (1,) * 24, (12, 12)]:
            move, start = first_move(lot), 0
            self.assertTrue(is_move(move))
            self.same(kind_of(move), lot)
            for member in lot:
                self.assertIn(tuple(range(start, start + member)), cycles(move))
                start += member
        self.refuses_in_order(first_move, ((2, 1), InvalidLot, NO_LOTS + ((),)))

    def test_swap_move(self):
        for size in (2, 5, 24):
            for low, high in swaps(size):
                wanted = list(range(size))
                wanted[low], wanted[high] = high, low
                self.same(swap_move(size, (low, high)), tuple(wanted))
        self.refuses_in_order(swap_move, (4, InvalidCount, NO_SIZES), ((0, 3), InvalidSwap, NO_SWAPS))

    def test_row_product(self):
        for many in range(4):
            for row in rows(4, many):
                self.same(row_product(4, row), product_by_swaps(4, row))
        self.same(row_product(1, ()), (0,))
        self.same(row_product(24, ()), tuple(range(24)))
        long = tuple(itertools.islice(itertools.cycle(swaps(24)), 200))
        self.same(row_product(24, long), product_by_swaps(24, long))
        self.refuses_in_order(row_product, (4, InvalidCount, NO_SIZES), (((0, 3),), InvalidRow, NO_ROWS))

    def test_a_swap_parts_or_joins(self):
        for move in every(4):
            for swap in swaps(4):
                together = [cycle for cycle in cycles(move) if swap[0] in cycle and swap[1] in cycle]
                many = len(cycles(behind(move, swap_move(4, swap))))
                self.assertEqual(many - len(cycles(move)), 1 if together else -1)

    def test_least_number_and_parity(self):
        for size in range(1, 5):
            made = {}
            for many in range(6):
                for row in rows(size, many):
                    made.setdefault(product_by_swaps(size, row), set()).add(many)
            for move in every(size):
                self.same(least_number(move), min(made[move]))
                self.same(parity(move), least_number(move) % 2)
                # Just these numbers of swaps have rows, tried up to five of them.
                wanted = [many for many in range(6) if (many - least_number(move)) % 2 == 0]
                wanted = [many for many in wanted if many >= least_number(move) and (size > 1 or many == 0)]
                self.assertEqual(sorted(made[move]), wanted)

    def test_strict_rows(self):
        for size in range(1, 6):
            for move in every(size):
                row = strict_row(move)
                self.assertTrue(is_strict(size, row))
                self.assertEqual(len(row), least_number(move))
                self.same(product_by_swaps(size, row), move)
        # Each move has just one, found by trying all.
        tried = [row for many in range(4) for row in rows(4, many) if is_strict(4, row)]
        products = [product_by_swaps(4, row) for row in tried]
        self.assertEqual(sorted(products), every(4))
        for row, move in zip(tried, products):
            self.same(strict_row(move), row)
        backwards = tuple(range(23, -1, -1))
        self.same(row_product(24, strict_row(backwards)), backwards)
        self.same(strict_row(backwards), tuple([(23 - place, place) for place in range(12, 24)]))

    def test_row_of(self):
        for size in range(1, 5):
            for move in every(size):
                for many in range(9):
                    there = many >= least_number(move) and (many - least_number(move)) % 2 == 0
                    found = row_of(move, many)
                    if there and (size > 1 or many == 0):
                        self.assertEqual(len(found), many)
                        self.assertTrue(is_row(size, found))
                        self.same(product_by_swaps(size, found), move)
                        self.assertIs(is_row_of(move, found), True)
                    else:
                        self.assertIsNone(found)
        self.assertEqual(len(row_of((1, 2, 0), 200)), 200)
        self.assertIs(is_row_of((1, 2, 0), row_of((1, 2, 0), 200)), True)
        self.assertIsNone(row_of((0,), 200))
        self.refuses_in_order(row_of, ((1, 2, 0), InvalidMove, NO_MOVES), (4, InvalidCount, (-1, 201) + NO_INTEGERS))

    def test_is_row_of(self):
        for move in every(3):
            for many in range(4):
                for row in rows(3, many):
                    self.assertIs(is_row_of(move, row), product_by_swaps(3, row) == move)
        self.judges(lambda value: is_row_of((0, 1, 2, 3), value), [(), ((0, 1),) * 200], NO_ROWS + (((0, 1),),))
        self.refuses_in_order(lambda move: is_row_of(move, None), ((1, 0), InvalidMove, NO_MOVES))

    def test_row_number_by_trying_all(self):
        for size in range(1, 5):
            for many in range(5):
                tried = list(rows(size, many))
                rising = [row for row in tried if is_rising(size, row)]
                strict = [row for row in tried if is_strict(size, row)]
                found = [row_number(size, many, word) for word in ("all", "rising", "strict")]
                self.same(found, [len(tried), len(rising), len(strict)])

    def test_row_number_by_sums_of_products(self):
        for size in (1, 2, 7, 24):
            numbers = range(1, size)
            for many in (0, 1, 2, 3):
                strict = sum([math.prod(some) for some in itertools.combinations(numbers, many)])
                rising = sum([math.prod(some) for some in itertools.combinations_with_replacement(numbers, many)])
                self.same(row_number(size, many, "strict"), strict)
                self.same(row_number(size, many, "rising"), rising)
        self.same(row_number(24, 200, "all"), 276 ** 200)
        self.same(row_number(24, 23, "strict"), math.factorial(23))
        self.same([row_number(24, 24, "strict"), row_number(1, 200, "rising"), row_number(2, 200, "rising")], [0, 0, 1])
        self.refuses_in_order(row_number, (4, InvalidCount, NO_SIZES), (2, InvalidCount, (-1, 201) + NO_INTEGERS),
                              ("all", UnknownName, NO_WORDS))

    def test_what_is_not_true(self):
        row = ((0, 1), (0, 2))
        turned = tuple([tuple(sorted([(1, 2, 0)[low], (1, 2, 0)[high]])) for low, high in row])
        self.assertEqual((is_rising(3, row), is_rising(3, turned), is_rising(3, row[::-1])), (True, False, False))
