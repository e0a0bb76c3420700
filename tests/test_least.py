"""Stage 15: least rows of moves [15.1] to [15.6]."""

import itertools
import math
import types
from fractions import Fraction

from support import ANY_VALUES, NO_INTEGERS, NO_TUPLES, Case, first_of
from test_kinds import least_swaps, taken_back, then
from test_lots import NO_LOTS, kind_of_move
from test_moves import NO_MOVES, every

from swapsheets.errors import InvalidCount, InvalidLot, InvalidMove, InvalidOperation, TooMany
from swapsheets.kindred.kinds import rows_of_kinds
from swapsheets.leastrows import least as module
from swapsheets.leastrows.least import cacti, cactus_number, genus_of_row, is_cactus, is_least_row, least_rows
from swapsheets.leastrows.least import least_rows_number, turned_cactus
from swapsheets.moving.moves import first_move
from swapsheets.oneside.formulas import round_rows
from swapsheets.squares.lots import lots, renamings

EXAMPLES = """
>>> [cactus_number(((2, 1, 1),) * 3), cactus_number(((2, 2, 1), (3, 1, 1))), cactus_number(((2, 2), (2, 2))), list(cacti(((2, 1), (2, 1))))]
[16, 5, 0, [((0, 2, 1), (1, 0, 2)), ((1, 0, 2), (2, 1, 0)), ((2, 1, 0), (0, 2, 1))]]
>>> [least_rows_number((3,), 2), least_rows_number((2, 2), 2), least_rows_number((2, 1), 3), least_rows_number((1, 1, 1), 3), len(list(least_rows((1, 0, 3, 2), 2)))]
[5, 18, 20, 24, 18]
>>> [genus_of_row(((1, 2, 0), (1, 2, 0))), genus_of_row(((1, 2, 0), (1, 2, 0), (1, 2, 0))), genus_of_row(((1, 0, 2),)), turned_cactus(((2, 1), (2, 1)), ((0, 2, 1), (1, 0, 2)))]
[1, 1, None, ((2, 1, 0), (0, 2, 1))]
>>> list(cacti(((2, 1), (2, 2))))
raises InvalidOperation
"""
# No rows of one to eight moves of one number of places.
NO_MOVE_ROWS = NO_TUPLES + (
    (), (0,), (1, 0), (0, 1), ((),), ((0, 1), (0, 1, 2)), ((1, 0), None), ((1, 0), (1, 1)), ((True, 0),), ((1, False),), ([1, 0],),
    (None, (1, 0)), (0, (1, 0)), ("", (1, 0)), ((), (0,)), ([0, 1], (0, 1)), (True, (0,)),
    [(1, 0)], ((0,),) * 9, (((0,),),), (tuple(range(25)),), ((0, 1), "ab"), ((0, 2),), ((0,), ()), ({0: 0},),
)
# No tuples of one to eight lots.
NO_EIGHT_LOTS = NO_TUPLES + (
    (), (1,), (2, 1), ((2, 1), None), ((2, 1), 3), ((2, 1), (1, 2)), ((2, 1), [2, 1]), [(2, 1)], ((True,),), ((25,),),
    ((2, 1),) * 9, ((1,),) * 9, (((2, 1),),), ((0,),), ("ab",), ({(2, 1): 1},), ((2, 1), (1,) * 25),
)
UNLIKE = (((),), ((), ()), ((2, 1), (2, 2)), ((2, 1), (3, 1), (2, 1)), ((2, 1), ()), ((), (1,)), ((1,),) * 7 + ((2,),))
SWAP_OF_SEVEN = (2,) + (1,) * 5


def product_of(row):
    made = tuple(range(len(row[0])))
    for move in row:
        made = then(made, move)
    return made


def joined(row):
    """Whether the moves lead from the place 0 to all places."""
    seen, waiting = set(), [0]
    while waiting:
        place = waiting.pop()
        if place not in seen:
            seen.add(place)
            waiting += [move[place] for move in row] + [move.index(place) for move in row]
    return len(seen) == len(row[0])


def genus_by_rule(row):
    """The genus by [15.1], None if not all places are joined."""
    if not joined(row):
        return None
    kind = kind_of_move(product_of(row))
    twice = sum([least_swaps(kind_of_move(move)) for move in row]) - (len(row[0]) - 2 + len(kind))
    assert twice >= 0 and twice % 2 == 0
    return twice // 2


def around(size):
    return tuple([(place + 1) % size for place in range(size)])


def carried(move, by):
    """The move b of [5.1]: `by` undone, then the move, then `by`."""
    return then(then(taken_back(by), move), by)


class TestLeast(Case):
    def test_examples(self):
        self.runs(EXAMPLES, dict(vars(module)))

    def test_constants(self):
        self.same((module.MAX_FACTORS, module.MAX_CACTI), (8, 20000))

    def test_all_rows_of_moves(self):
        # All rows: their genus, and those of genus 0 by their product, and by their kinds.
        for size, many in ((1, 1), (1, 2), (2, 1), (2, 3), (3, 1), (3, 2), (3, 3), (4, 1), (4, 2), (4, 3)):
            least, kinds = {}, {}
            for at, row in enumerate(itertools.product(every(size), repeat=many)):
                genus = genus_by_rule(row)
                if at < 2000 or at % 7 == 0:
                    self.same(genus_of_row(row), genus)
                if genus == 0:
                    product = product_of(row)
                    least.setdefault(product, []).append(row)
                    if product == around(size):
                        kinds.setdefault(tuple([kind_of_move(move) for move in row]), []).append(row)
            self.of_all_products(size, many, least)
            for told in itertools.product(lots(size), repeat=many):
                wanted = kinds.get(told, [])
                self.same(cactus_number(told), len(wanted))
                self.same(list(cacti(told)), wanted)

    def of_all_products(self, size, many, least):
        if many < 2:
            return
        for move in every(size):
            wanted = least.get(move, [])
            self.same(least_rows_number(kind_of_move(move), many), len(wanted))
            self.same(list(least_rows(move, many)), wanted)
            for row in wanted[::11]:
                self.assertIs(is_least_row(move, many, row), True)
                self.assertIs(is_least_row(move, many, row[::-1]), genus_by_rule(row) == 0 and product_of(row[::-1]) == move)

    def test_genus_at_its_bounds(self):
        self.same([genus_of_row(((0,),) * many) for many in (1, 8)], [0, 0])
        self.same(genus_of_row((tuple(range(24)),) * 8), None)
        self.same(genus_of_row((around(24),)), 0)
        self.same(genus_of_row((around(24),) * 8), genus_by_rule((around(24),) * 8))
        self.same(genus_of_row((around(24), taken_back(around(24)))), 0)
        self.same(genus_of_row((around(5),) * 2 + (taken_back(around(5)),)), genus_by_rule((around(5),) * 2 + (taken_back(around(5)),)))
        halves = ((1, 0) + tuple(range(2, 24)), (0, 1) + around(24)[:22])
        self.refuses(InvalidOperation, genus_of_row, halves)
        # All places but one are joined.
        self.same(genus_of_row((around(23) + (23,), (1, 0) + tuple(range(2, 24)))), None)
        self.refuses_in_order(genus_of_row, (((1, 0), (0, 1)), InvalidOperation, NO_MOVE_ROWS))

    def test_numbers_of_cacti(self):
        # [15.3], and the numbers of rows of kinds, which join all places as their product does.
        for size in range(1, 9):
            if size > 1:
                swaps = ((2,) + (1,) * (size - 2),) * (size - 1)
                self.same(cactus_number(swaps), size ** (size - 2))
                self.same(cactus_number(swaps), round_rows(size, 0))
            self.same(cactus_number(((size,),)), 1)
            self.same(cactus_number(((size,), (1,) * size)), 1)
            for many in (2, 3):
                told = list(itertools.product(lots(size), repeat=many))[::1 if size < 5 else 5]
                for kinds in told:
                    least = sum([least_swaps(lot) for lot in kinds]) == size - 1
                    self.same(cactus_number(kinds), rows_of_kinds(kinds, (size,)) if least else 0)
        for size, many in ((2, 5), (3, 3), (4, 3), (5, 2), (6, 2)):
            whole = sum([cactus_number(kinds) for kinds in itertools.product(lots(size), repeat=many)])
            self.same(whole, math.comb(many * size, size) // ((many - 1) * size + 1))
            self.same(least_rows_number((size,), many), whole)

    def test_numbers_of_great_cacti(self):
        for kinds in (((2,) * 12, (12,) + (1,) * 12), ((3, 3, 2, 2) + (1,) * 14, (5, 4, 4, 2, 2) + (1,) * 7, (6,) + (1,) * 18)):
            self.assertEqual(sum([least_swaps(lot) for lot in kinds]), 23)
            wanted = Fraction(24 ** (len(kinds) - 1))
            for lot in kinds:
                wanted *= Fraction(math.factorial(len(lot) - 1), renamings(lot))
            self.same(Fraction(cactus_number(kinds)), wanted)
        self.same(cactus_number(((2,) * 12, (12,) + (1,) * 12)), 2)
        self.same(cactus_number(((1,) * 24,) * 7 + ((24,),)), 1)
        self.same(cactus_number(((4,) + (1,) * 20,) * 7 + ((3,) + (1,) * 21,)), 24 ** 7)
        self.same(cactus_number(((1,),) * 8), 1)

    def test_lists_of_cacti(self):
        for kinds in (((2, 1, 1),) * 3, ((2, 2, 1), (3, 1, 1)), ((3, 1, 1, 1, 1),) * 3, ((2, 2, 2), (2, 2, 1, 1)), ((7,),),
                      (SWAP_OF_SEVEN, (2, 2, 1, 1, 1), (4, 1, 1, 1)), ((1, 1), (2,), (1, 1)), ((1,),) * 8, ((1, 1, 1),) * 6 + ((2, 1),) * 2):
            found = list(cacti(kinds))
            self.assertEqual(len(found), cactus_number(kinds))
            self.assertEqual(found, sorted(set(found)))
            for row in found:
                self.assertEqual(tuple([kind_of_move(move) for move in row]), kinds)
                self.assertEqual((product_of(row), genus_by_rule(row)), (around(sum(kinds[0])), 0))
        # As many as there can be: no kinds with a sum of at most 7 have more than 20,000 cacti.
        found = list(cacti((SWAP_OF_SEVEN,) * 6))
        self.assertEqual((len(found), found), (7 ** 5, sorted(set(found))))
        self.same(len(list(cacti(((1,) * 7,) + (SWAP_OF_SEVEN,) * 6 + ((1,) * 7,)))), 7 ** 5)
        self.same(list(cacti(((2, 2), (2, 2)))), [])
        self.assertIsInstance(cacti(((2, 1),)), types.GeneratorType)

    def test_is_cactus(self):
        for kinds in (((2, 1, 1),) * 3, ((2, 2, 1), (3, 1, 1)), ((3,),), ((2, 1), (2, 1)), ((2, 1), (1, 1, 1), (2, 1)), ((1,),) * 8):
            right = list(cacti(kinds))
            wrong = ANY_VALUES + NO_MOVE_ROWS + (right[0][::-1] + right[0][:1], right[0] + right[0], list(right[0]))
            if len(kinds) > 1 and kinds[0] != (1,):
                # Another product, and other kinds with this product.
                wrong += (tuple([carried(move, (1, 0) + tuple(range(2, len(move)))) for move in right[0]]),)
                wrong += ((around(sum(kinds[0])),) + (tuple(range(sum(kinds[0]))),) * (len(kinds) - 1),)
            self.judges(lambda value, kinds=kinds: is_cactus(kinds, value), right, wrong)
        # Rows of the kinds whose product is the round, and none of them of genus 0.
        for row in itertools.product([move for move in every(3) if kind_of_move(move) == (3,)], repeat=4):
            self.assertIs(is_cactus(((3,),) * 4, row), False)
        great = ((24,), (1,) * 24)
        self.judges(lambda value: is_cactus(great, value), ((around(24), tuple(range(24))),), ((tuple(range(24)), around(24)), (around(24),)))
        self.assertIs(is_cactus(((2, 1), (2, 1)), ((False, 2, True), (True, False, 2))), False)
        self.assertIs(is_cactus(((2, 2), (2, 2)), ((1, 0, 3, 2), (1, 0, 3, 2))), False)

    def test_turned_cacti(self):
        for kinds in (((2, 1, 1),) * 3, ((2, 2, 1), (3, 1, 1)), ((2, 1), (2, 1)), ((5,),), ((2, 1, 1), (1,) * 4, (3, 1)), ((1,), (1,))):
            size, seen = sum(kinds[0]), []
            for row in cacti(kinds):
                turned = turned_cactus(kinds, row)
                self.same(turned, (carried(row[-1], taken_back(around(size))),) + row[:-1])
                self.assertIs(is_cactus(kinds[-1:] + kinds[:-1], turned), True)
                seen.append(turned)
            self.assertEqual(sorted(seen), list(cacti(kinds[-1:] + kinds[:-1])))
        kinds = ((2, 1), (2, 1))
        self.refuses_in_order(turned_cactus, (kinds, InvalidOperation, NO_EIGHT_LOTS + UNLIKE),
                              (((0, 2, 1), (1, 0, 2)), InvalidOperation, ANY_VALUES + NO_MOVE_ROWS + (((1, 0, 2), (0, 2, 1)),)))
        great = ((24,), (1,) * 24)
        self.same(turned_cactus(great, (around(24), tuple(range(24)))), (tuple(range(24)), around(24)))

    def test_errors_of_cacti(self):
        for call in (cactus_number, first_of(cacti), lambda told: is_cactus(told, None)):
            self.refuses_in_order(call, (((2, 1), (2, 1)), InvalidOperation, NO_EIGHT_LOTS + UNLIKE))
        for kinds in (((8,),), ((2, 2, 2, 2), (5, 1, 1, 1)), ((24,),), ((1,) * 8,) * 8, (SWAP_OF_SEVEN + (1,),) * 7):
            cactus_number(kinds)
            self.refuses(TooMany, first_of(cacti), kinds, kept=(7,))
        late = cacti("no lots")
        self.refuses(InvalidOperation, next, late)

    def test_least_rows_numbers(self):
        for lot in [lot for total in range(1, 9) for lot in lots(total)] + [(24,), (1,) * 24, (5, 4, 4, 3, 3, 2, 2, 1)]:
            total, members = sum(lot), len(lot)
            for many in range(2, 9):
                top = many * (many - 1) ** (members - 1) * math.factorial((many - 1) * total)
                for member in lot:
                    top *= member * math.comb(many * member - 1, member - 1)
                wanted = Fraction(top, math.factorial((many - 1) * total - members + 2) * total)
                self.same(Fraction(least_rows_number(lot, many)), wanted)
                self.assertIsInstance(least_rows_number(lot, many), int)
        self.same([least_rows_number((size,), 2) for size in range(1, 8)], [1, 2, 5, 14, 42, 132, 429])
        self.refuses_in_order(least_rows_number, ((2, 1), InvalidLot, NO_LOTS + ((),)), (8, InvalidCount, (-1, 0, 1, 9) + NO_INTEGERS))

    def test_lists_of_least_rows(self):
        for move, many in ((around(7), 2), (tuple(range(7)), 2), ((1, 0, 3, 2, 4, 6, 5), 2), ((1, 0, 3, 2), 4), ((1, 2, 0, 4, 3), 3),
                           (around(3), 6), ((0, 1), 8), ((1, 0), 8), ((0,), 8), ((0,), 2)):
            found = list(least_rows(move, many))
            self.assertEqual(len(found), least_rows_number(kind_of_move(move), many))
            self.assertEqual(found, sorted(set(found)))
            for row in found[::13]:
                self.assertEqual((product_of(row), genus_by_rule(row), len(row)), (move, 0, many))
                self.assertIs(is_least_row(move, many, row), True)
        self.assertIsInstance(least_rows((0,), 2), types.GeneratorType)

    def test_least_rows_are_carried_and_turned(self):
        move = (1, 0, 2, 3)
        for row in list(least_rows(move, 3))[::7]:
            for by in every(4)[::5]:
                other = tuple([carried(step, by) for step in row])
                self.assertIs(is_least_row(carried(move, by), 3, other), True)
            turned = (carried(row[-1], taken_back(move)),) + row[:-1]
            self.assertIs(is_least_row(move, 3, turned), True)
            self.same(genus_of_row(turned), 0)

    def test_is_least_row(self):
        for move, many in (((1, 0, 2), 2), ((0, 1, 2), 3), (around(4), 2), ((0,), 2), ((0,), 8)):
            right = list(least_rows(move, many))
            wrong = ANY_VALUES + NO_MOVE_ROWS + (right[0] + right[0][:1], right[0][:-1], list(right[0]), ((0, 1, 2, 3, 4),) * many)
            if len(move) > 1:
                wrong += tuple([row for row in itertools.product(every(len(move)), repeat=many) if row not in right][::5])
            self.judges(lambda value, move=move, many=many: is_least_row(move, many, value), right, wrong)
        great = around(24)
        self.judges(lambda value: is_least_row(great, 8, value), ((great,) + (tuple(range(24)),) * 7,), ((great,) * 8, (great,), great))
        for call in (lambda move, many: is_least_row(move, many, None), first_of(least_rows)):
            self.refuses_in_order(call, ((0, 1, 2), InvalidMove, NO_MOVES), (2, InvalidCount, (-1, 0, 1, 9) + NO_INTEGERS))

    def test_twenty_thousand_rows(self):
        # d! to the power k - 1: 5040, 14400, 13824 and 7776 are let; 40320, 518400, 331776 and 46656 are not.
        for size, many in ((7, 2), (5, 3), (4, 4), (3, 6), (2, 8)):
            next(least_rows(around(size), many))
        for size, many in ((8, 2), (6, 3), (5, 4), (4, 5), (3, 7), (24, 8), (24, 2)):
            self.refuses(TooMany, first_of(least_rows), around(size), many, kept=(20000,))
            self.assertIs(is_least_row(around(size), many, (around(size),) + (tuple(range(size)),) * (many - 1)), True)
        self.refuses(InvalidCount, first_of(least_rows), around(24), 9, kept=(9,))
        self.refuses(TooMany, next, least_rows(around(8), 2), kept=(20000,))

    def test_what_is_not_true(self):
        found = list(least_rows((0, 1, 2), 2))
        self.assertEqual(len(found), least_rows_number((1, 1, 1), 2))
        kinds = {tuple([kind_of_move(move) for move in row]) for row in least_rows((1, 0, 2), 2)}
        self.assertGreater(len(kinds), 1)
        self.assertIs(is_least_row((1, 2, 0), 2, ((0, 1, 2), (1, 2, 0))), True)
