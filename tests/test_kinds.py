"""Stage 5: kinds and their products [5.1] to [5.7], and [0.10], [0.12] as far as they speak of them."""

import itertools
import math
import types
from fractions import Fraction

from support import ANY_VALUES, LONG, NO_INTEGERS, NO_SUMS, NO_TUPLES, Case, first_of, pair
from test_lots import NO_LOTS, kind_of_move
from test_moves import NO_MOVES, every

from swapsheets.errors import InvalidCount, InvalidLot, InvalidMove, InvalidOperation, TooMany
from swapsheets.kindred import kinds as module
from swapsheets.kindred.kinds import carrier, class_moves, is_carrier, keeping, kinds_product, power_kind
from swapsheets.kindred.kinds import product_number, product_table, roots_number, rows_of_kinds
from swapsheets.moving.moves import first_move
from swapsheets.squares.lots import class_size, keepers, lots

EXAMPLES = """
>>> [product_table((2, 1, 1), (2, 1, 1)), product_number((2, 2), (3, 1), (3, 1)), rows_of_kinds(((2, 1, 1),) * 3, (4,)), len(list(class_moves((3, 1)))), len(list(keeping((1, 0, 3, 2))))]
[{(1, 1, 1, 1): 6, (2, 2): 2, (3, 1): 3}, 3, 16, 8, 8]
>>> [power_kind((6, 4), 4), power_kind((3, 2), -1), roots_number((2, 2), 2), roots_number((1, 1, 1), 2), is_carrier((1, 0, 2), (0, 2, 1), (1, 2, 0)), is_carrier((1, 0, 2), (0, 2, 1), (2, 1, 0)), carrier((1, 0, 2), (1, 2, 0))]
[(3, 3, 1, 1, 1, 1), (3, 2), 2, 4, True, True, None]
>>> kinds_product({(2, 1): (1, 2)}, {(2, 1): (1, 1), (3,): (2, 1)})
{(1, 1, 1): (3, 2), (2, 1): (2, 1), (3,): (3, 2)}
>>> product_table((2, 1), (2, 2))
raises InvalidOperation
"""
HIGH = ((9,), (1,) * 9, (24,), (1,) * 24)
# No tuples of one to six lots.
NO_LOT_TUPLES = NO_TUPLES + (
    (), (1,), (2, 1), ((2, 1), None), ((2, 1), 3), ((2, 1), (1, 2)), ((2, 1), [2, 1]), [(2, 1)], ((True,),), ((25,),),
    ((2, 1),) * 7, (((2, 1),),), ((0,),), ("ab",), ((2, 1), (LONG,)), ((), (), (), (), (), (), ()), ({(2, 1): 1},),
)


def then(one, other):
    return tuple([other[place] for place in one])


def done(move, many):
    """The move, done so many times, many at least 0."""
    made = tuple(range(len(move)))
    for _ in range(many):
        made = then(made, move)
    return made


def taken_back(move):
    return tuple([move.index(place) for place in range(len(move))])


def least_swaps(lot):
    return sum(lot) - len(lot)


def moves_of(lot):
    return [move for move in every(sum(lot)) if kind_of_move(move) == lot] if lot else [()]


class TestKinds(Case):
    def test_examples(self):
        self.runs(EXAMPLES, dict(vars(module)))

    def test_constants(self):
        told = (module.MAX_LISTED, module.MAX_KINDRED, module.MAX_KEPT, module.MAX_KINDS)
        self.same(told, (7, 8, 20000, 6))

    def test_class_moves_by_trying_all(self):
        self.same(list(class_moves(())), [()])
        for total in range(1, 7):
            for lot in lots(total):
                self.same(list(class_moves(lot)), moves_of(lot))

    def test_class_moves_of_great_sums(self):
        for total in (7, 8):
            seen = 0
            for lot in lots(total):
                found = list(class_moves(lot))
                self.assertEqual(found, sorted(set(found)))
                self.assertEqual(len(found), class_size(lot))
                self.assertTrue(all([kind_of_move(move) == lot for move in found[:50] + found[-50:]]))
                seen += len(found)
            self.assertEqual(seen, math.factorial(total))
        self.assertIsInstance(class_moves((3, 1)), types.GeneratorType)
        self.same(next(class_moves((8,))), (1, 2, 3, 4, 5, 6, 7, 0))

    def test_errors_of_class_moves(self):
        self.refuses_in_order(first_of(class_moves), ((8,), InvalidLot, NO_LOTS))
        for lot in HIGH:
            late = class_moves(lot)
            self.refuses(TooMany, next, late, kept=(8,))

    def test_carriers_by_trying_all(self):
        for size in range(1, 5):
            for one in every(size):
                for other in every(size):
                    right = [move for move in every(size) if then(then(taken_back(move), one), move) == other]
                    alike = kind_of_move(one) == kind_of_move(other)
                    self.assertEqual(len(right), keepers(kind_of_move(one)) if alike else 0)
                    found = carrier(one, other)
                    self.assertTrue(found in right if alike else found is None)
                    wrong = [move for move in every(size) if move not in right]
                    self.judges(lambda value: is_carrier(one, other, value), right, wrong)

    def test_carriers_of_great_moves(self):
        for lot in ((24,), (8, 8, 4, 2, 1, 1), (3,) * 8, (1,) * 24, (2,) * 12):
            one, other = first_move(lot), tuple([23 - place for place in taken_back(first_move(lot))[::-1]])
            self.assertIs(is_carrier(one, other, carrier(one, other)), True)
            self.assertIs(is_carrier(other, one, carrier(other, one)), True)
        self.assertIs(carrier(first_move((24,)), first_move((23, 1))), None)
        self.assertIs(carrier(first_move((4, 2, 2)), first_move((4, 4))), None)

    def test_is_carrier_of_every_value(self):
        for value in ANY_VALUES + NO_MOVES:
            self.assertIs(is_carrier((1, 0, 2), (0, 2, 1), value), False)
        self.assertIs(is_carrier((0,), (0,), (0,)), True)
        self.judges(lambda value: is_carrier((0, 1), (0, 1), value), [(0, 1), (1, 0)],
                    [(False, True), (True, False), (0, True), [0, 1], (0,), (0, 1, 2), (1, 1)])

    def test_errors_of_carriers(self):
        self.refuses_in_order(carrier, ((1, 0, 2), InvalidMove, NO_MOVES), ((0, 2, 1), InvalidMove, NO_MOVES))
        judge = lambda one, other: is_carrier(one, other, None)
        self.refuses_in_order(judge, ((1, 0, 2), InvalidMove, NO_MOVES), ((0, 2, 1), InvalidMove, NO_MOVES))
        for one, other in (((0,), (0, 1)), ((1, 0, 2), (1, 0)), (tuple(range(24)), tuple(range(23)))):
            self.refuses(InvalidOperation, carrier, one, other)
            self.refuses(InvalidOperation, is_carrier, one, other, None)

    def test_keeping_by_trying_all(self):
        for size in range(1, 6):
            for move in every(size):
                wanted = [other for other in every(size) if then(move, other) == then(other, move)]
                self.same(list(keeping(move)), wanted)
                self.assertEqual(len(wanted), keepers(kind_of_move(move)))

    def test_keeping_at_its_bound(self):
        # Of the kinds up to 24 places, those with more than 20,000 are refused, and no others.
        counts = []
        for total in range(1, 25):
            for lot in lots(total):
                move = first_move(lot)
                counts.append((keepers(lot), lot))
                if keepers(lot) > 20000:
                    self.refuses(TooMany, first_of(keeping), move, kept=(20000,))
                else:
                    first = next(keeping(move))
                    self.assertEqual(then(first, move), then(move, first))
        most, lot = max([(many, lot) for many, lot in counts if many <= 20000])
        found = list(keeping(first_move(lot)))
        self.assertGreater(most, 19000)
        self.assertEqual(len(found), most)
        self.assertEqual(found, sorted(set(found)))
        move = first_move(lot)
        self.assertTrue(all([then(other, move) == then(move, other) for other in found[::97]]))

    def test_errors_of_keeping(self):
        self.refuses_in_order(first_of(keeping), ((1, 0), InvalidMove, NO_MOVES))
        late = keeping((1, 1))
        self.refuses(InvalidMove, next, late)
        self.assertIsInstance(keeping((0,)), types.GeneratorType)

    def test_products_by_trying_all_pairs(self):
        for total in range(6):
            order = lots(total)
            for one in order:
                for other in order:
                    made = [then(a, b) for a in moves_of(one) for b in moves_of(other)]
                    wanted = {}
                    for third in order:
                        found = {made.count(move) for move in moves_of(third)}
                        self.assertEqual(len(found), 1)
                        (number,) = found
                        self.same(product_number(one, other, third), number)
                        if number:
                            wanted[third] = number
                    self.same(product_table(one, other), wanted)

    def test_what_holds_for_products(self):
        for total in (6, 8):
            order = lots(total)
            for one in order:
                for other in order[::3]:
                    table = product_table(one, other)
                    self.same(list(table), sorted(table))
                    self.same(product_table(other, one), table)
                    added = sum([number * class_size(third) for third, number in table.items()])
                    self.assertEqual(added, class_size(one) * class_size(other))
                    for third, number in table.items():
                        turned = product_number(one, third, other)
                        self.assertEqual(number * class_size(third), turned * class_size(other))
                        self.assertLessEqual(least_swaps(third), least_swaps(one) + least_swaps(other))
                        self.assertEqual((least_swaps(one) + least_swaps(other) + least_swaps(third)) % 2, 0)
        self.same(product_table((), ()), {(): 1})
        self.same(product_number((), (), ()), 1)

    def test_errors_of_products(self):
        self.refuses_in_order(product_number, ((2, 1), InvalidLot, NO_LOTS), ((2, 1), InvalidLot, NO_LOTS),
                              ((3,), InvalidLot, NO_LOTS))
        self.refuses_in_order(product_table, ((2, 1), InvalidLot, NO_LOTS), ((2, 1), InvalidLot, NO_LOTS))
        # The error of unlike sums is a later one than that of each lot, and the bound comes behind it.
        self.refuses(InvalidLot, product_number, (2, 1), (2, 2), (1, 2))
        for told in (((2, 1), (2, 2), (2, 1)), ((2, 1), (2, 1), (2, 2)), ((2, 2), (2, 1), (2, 1)), ((9,), (9,), (8,)),
                     ((), (), (1,)), ((9,), (10,), (9,))):
            self.refuses(InvalidOperation, product_number, *told)
        for told in (((2, 1), (2, 2)), ((9,), (10,)), ((), (1,)), ((24,), (1,))):
            self.refuses(InvalidOperation, product_table, *told)
        for lot in HIGH:
            self.refuses(TooMany, product_number, lot, lot, lot, kept=(8,))
            self.refuses(TooMany, product_table, lot, lot, kept=(8,))

    def test_rows_of_kinds_by_trying_all(self):
        for total in range(5):
            order = lots(total)
            for many in (1, 2, 3):
                for told in itertools.product(order, repeat=many):
                    if total == 4 and many == 3 and told[0] > told[1]:
                        continue
                    made = [tuple(range(total))]
                    for lot in told:
                        made = [then(move, other) for move in made for other in moves_of(lot)]
                    for third in order:
                        target = moves_of(third)[-1]
                        self.same(rows_of_kinds(told, third), made.count(target))

    def test_rows_of_many_kinds(self):
        told = ((4, 2, 2), (3, 3, 1, 1), (5, 1, 1, 1), (2, 2, 2, 1, 1), (8,), (2, 1, 1, 1, 1, 1, 1))
        states = {told[0]: 1}
        for many in range(1, 7):
            for third in lots(8):
                self.same(rows_of_kinds(told[:many], third), states.get(third, 0))
            behind = {}
            for lot, number in states.items():
                for third, factor in product_table(lot, told[many % 6]).items():
                    behind[third] = behind.get(third, 0) + number * factor
            states = behind
        self.same(rows_of_kinds(((),) * 6, ()), 1)

    def test_errors_of_rows_of_kinds(self):
        self.refuses_in_order(rows_of_kinds, (((2, 1),) * 6, InvalidOperation, NO_LOT_TUPLES), ((3,), InvalidLot, NO_LOTS))
        for told, third in ((((2, 1), (2, 2)), (3,)), (((2, 1),), (4,)), (((9,), (8,)), (9,)), (((9,),), (10,)), (((),), (1,))):
            self.refuses(InvalidOperation, rows_of_kinds, told, third)
        self.refuses(InvalidLot, rows_of_kinds, ((2, 1), (2, 2)), (1, 2))
        for lot in HIGH:
            self.refuses(TooMany, rows_of_kinds, (lot,), lot, kept=(8,))
            self.refuses(TooMany, rows_of_kinds, (lot,) * 6, lot, kept=(8,))

    def test_kinds_products_by_products_of_moves(self):
        one = {(2, 1, 1): (1, 2), (2, 2): (-3, 1), (4,): (2, 7)}
        other = {(1, 1, 1, 1): (5, 3), (3, 1): (1, 1), (4,): (-1, 9), (2, 1, 1): (1, 1)}
        found = {}
        for lot, entry in one.items():
            for by, number in other.items():
                for a in moves_of(lot):
                    for b in moves_of(by):
                        move = then(a, b)
                        found[move] = found.get(move, 0) + Fraction(*entry) * Fraction(*number)
        wanted = {lot: pair(found.get(moves_of(lot)[0], 0)) for lot in lots(4)}
        self.same(kinds_product(one, other), {lot: wanted[lot] for lot in wanted if wanted[lot] != (0, 1)})
        self.same(kinds_product(other, one), kinds_product(one, other))

    def test_what_holds_for_kinds_products(self):
        for one in lots(5):
            for other in lots(5):
                table = {lot: (number, 1) for lot, number in product_table(one, other).items()}
                self.same(kinds_product({one: (1, 1)}, {other: (1, 1)}), table)
        sums = [{lot: (at + 1, 2 * at + 3) for at, lot in enumerate(lots(7)[start::4]) if math.gcd(at + 1, 2 * at + 3) == 1}
                for start in range(3)]
        kept = [{lot: entry for lot, entry in told.items()} for told in sums]
        here = kinds_product(kinds_product(sums[0], sums[1]), sums[2])
        self.same(kinds_product(sums[0], kinds_product(sums[1], sums[2])), here)
        self.same(sums, kept)
        self.same(list(here), sorted(here))

    def test_kinds_products_at_their_edges(self):
        self.same(kinds_product({}, {}), {})
        self.same(kinds_product({}, {(8,): (1, 1)}), {})
        self.same(kinds_product({(2, 1): (1, 1)}, {}), {})
        self.same(kinds_product({(): (1, 2)}, {(): (-4, 3)}), {(): (-2, 3)})
        self.same(kinds_product({(1, 1): (1, 1), (2,): (1, 1)}, {(1, 1): (1, 1), (2,): (-1, 1)}), {})
        self.same(kinds_product({(1, 1): (1, 1), (2,): (1, 1)}, {(1, 1): (1, 1)}), {(1, 1): (1, 1), (2,): (1, 1)})

    def test_kinds_products_of_long_entries(self):
        # Sixty digits are let in what comes, sixty-one are not; the integers of a fraction can have any length.
        high, half = LONG - 1, 10 ** 30
        self.same(kinds_product({(1,): (high, 1)}, {(1,): (1, 1)}), {(1,): (high, 1)})
        self.same(kinds_product({(1,): (1, high)}, {(1,): (-1, 1)}), {(1,): (-1, high)})
        self.same(kinds_product({(1,): (LONG, 1)}, {(1,): (1, LONG)}), {(1,): (1, 1)})
        self.same(kinds_product({(1,): (half - 1, 1)}, {(1,): (half, 1)}), {(1,): (half * (half - 1), 1)})
        for one, other in (((half, 1), (half, 1)), ((-half, 1), (half, 1)), ((1, half), (1, half)), ((LONG, 1), (1, 1)),
                           ((1, LONG), (1, 1))):
            self.refuses(TooMany, kinds_product, {(1,): one}, {(1,): other}, kept=(60,))
        self.refuses(TooMany, kinds_product, {(2, 1): (high, 1)}, {(2, 1): (1, 1)}, kept=(60,))

    def test_errors_of_kinds_products(self):
        good = {(2, 1): (1, 2), (3,): (-1, 1)}
        self.refuses_in_order(kinds_product, (good, InvalidOperation, NO_SUMS), (good, InvalidOperation, NO_SUMS))
        self.refuses(InvalidOperation, kinds_product, {(2, 1): (1, 1)}, {(2, 2): (1, 1)})
        self.refuses(InvalidOperation, kinds_product, good, {(4,): (1, 1), (2, 2): (1, 1)})
        self.refuses(InvalidOperation, kinds_product, {(9,): (1, 1)}, {(10,): (1, 1)})
        self.refuses(InvalidOperation, kinds_product, {(): (1, 1)}, {(1,): (1, 1)})
        for lot in HIGH:
            self.refuses(TooMany, kinds_product, {lot: (1, 1)}, {lot: (1, 1)}, kept=(8,))
            self.refuses(TooMany, kinds_product, {lot: (LONG, 1)}, {lot: (LONG, 1)}, kept=(8,))
            self.refuses(TooMany, kinds_product, {lot: (1, 1)}, {}, kept=(8,))
            self.refuses(TooMany, kinds_product, {}, {lot: (1, 1)}, kept=(8,))

    def test_power_kinds_by_doing_moves(self):
        for total in range(1, 7):
            for lot in lots(total):
                move = first_move(lot)
                for many in range(13):
                    kind = kind_of_move(done(move, many))
                    self.same(power_kind(lot, many), kind)
                    self.same(power_kind(lot, -many), kind)

    def test_power_kinds_at_their_edges(self):
        self.same(power_kind((), 5), ())
        self.same(power_kind((24,), 0), (1,) * 24)
        self.same(power_kind((24,), 18), (4,) * 6)
        self.same(power_kind((24,), -24), (1,) * 24)
        self.same(power_kind((7, 6, 5, 4, 2), LONG - 1), (5, 4, 2, 2, 2, 2) + (1,) * 7)
        self.same(power_kind((12, 12), 1 - LONG), (4,) * 6)
        self.refuses_in_order(power_kind, ((2, 1), InvalidLot, NO_LOTS), (0, InvalidCount, NO_INTEGERS))

    def test_roots_by_trying_all(self):
        for size in range(1, 7):
            for many in range(1, 8):
                powers = [done(move, many) for move in every(size)]
                for lot in lots(size):
                    self.same(roots_number(lot, many), powers.count(first_move(lot)))
                    self.same(roots_number(lot, many), powers.count(moves_of(lot)[-1]))

    def test_roots_at_their_edges(self):
        self.same(roots_number((), 3), 1)
        for lot in ((24,), (5, 3, 2), (1,) * 24):
            self.same(roots_number(lot, 1), 1)
        self.same(roots_number((1,) * 24, math.factorial(24)), math.factorial(24))
        self.same(roots_number((2, 2), LONG - 1), 1)
        self.same(roots_number((2, 2), LONG - 2), 2)
        self.same(roots_number((2,), LONG - 2), 0)
        # All roots of all moves are all moves.
        for many in (2, 6, 12):
            self.assertEqual(sum([class_size(lot) * roots_number(lot, many) for lot in lots(12)]), math.factorial(12))
        self.refuses_in_order(roots_number, ((2, 1), InvalidLot, NO_LOTS), (1, InvalidCount, (0, -1, 1 - LONG) + NO_INTEGERS))

    def test_what_is_not_true(self):
        self.same(product_number((2, 2), (2, 2), (3, 1)), 0)
        self.assertNotIn((3, 1), product_table((2, 2), (2, 2)))
        fits = [(one, other, third) for one in lots(5) for other in lots(5) for third in lots(5)
                if least_swaps(third) <= least_swaps(one) + least_swaps(other)
                and (least_swaps(one) + least_swaps(other) + least_swaps(third)) % 2 == 0]
        self.assertTrue(any([third not in product_table(one, other) for one, other, third in fits]))
