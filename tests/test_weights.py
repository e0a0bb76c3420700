"""Stage 9: rising rows, and weights of rows [9.1] to [9.7], and [0.13] to [0.15], [0.20] as far as they speak of them."""

import itertools
import math
import types
from fractions import Fraction

from support import LONG, NO_INTEGERS, NO_TUPLES, NO_WORDS, Case, first_of
from test_lots import NO_LOTS, kind_of_move
from test_moves import NO_MOVES, every, product_by_swaps, rows

from swapsheets.base.formulas import Formula
from swapsheets.errors import InvalidCount, InvalidLot, InvalidMix, InvalidMove, InvalidOperation, TooMany, UnknownName
from swapsheets.moving.moves import cycles, first_move, is_rising, is_strict, row_number
from swapsheets.rising import weights as module
from swapsheets.rising.weights import cycle_table, inverse_table, mixed_number, rising_bottom, rising_rows, rising_top
from swapsheets.rising.weights import series_number, weight_table, weighted_number
from swapsheets.squares.lots import contents, keepers, lots

EXAMPLES = """
>>> [weighted_number((2, 1), (3,), 3, "rising"), weighted_number((1, 1, 1), (3,), 2, "strict"), weighted_number((1, 1, 1), (2, 1), 3, "all")]
[(5, 1), (1, 3), (9, 2)]
>>> [mixed_number((2, 1), (3,), (("strict", 1), ("rising", 2))), series_number((2, 1), (3,), 3, (1, 1, 1, 1)), series_number((2, 1), (2, 1), 2, (1, 1, 2)), weight_table(2, "rising", 3)]
[(7, 1), (5, 1), (6, 1), {(1, 1): {(1, 1): 0, (2,): 1}, (2,): {(1, 1): 1, (2,): 0}}]
>>> [str(rising_bottom(3)), str(rising_top((3,), (3,))), str(rising_top((2, 2), (4,)))]
['4*a^4 - 5*a^2 + 1', '1/3', '-3/4*a^3 + 1/2*a']
>>> [cycle_table(2, 3), inverse_table(3, 3)[(3,)], cycle_table(3, 2)[(1, 1, 1)]]
[{(1, 1): {(1, 1): 9, (2,): 3}, (2,): {(1, 1): 3, (2,): 9}}, {(1, 1, 1): (1, 60), (2, 1): (-3, 40), (3,): (3, 40)}, {(1, 1, 1): 8, (2, 1): 12, (3,): 4}]
>>> [list(rising_rows(3, 2, (1, 2, 0))), len(list(rising_rows(4, 3, (1, 0, 2, 3))))]
[[((0, 1), (0, 2)), ((0, 2), (1, 2))], 10]
>>> inverse_table(3, 2)
raises InvalidOperation
"""
WORDS = ("all", "rising", "strict")
HIGH = ((15,), (1,) * 15, (24,))
NO_MIXES = NO_TUPLES + (
    ("all", 1), ("all",), (1,), (("all",),), (("all", 1, 2),), (("none", 1),), (("all", -1),), (("all", 61),),
    (("all", True),), (("all", None),), ((1, "all"),), ((None, 1),), (["all", 1],), (("all", 1), 1), (("all", "1"),),
    (("all", 1),) * 7, [("all", 1)], (("all", LONG),), ((("all",), 1),), (("all", 1), ("rising", 2), ()), ("ab",),
)
NO_WEIGHTS = NO_TUPLES + (
    (), (0,), (2,), (-1,), (0, 1), (True,), (True, 1), (1, True), (1, None), (1, "1"), (1, (1, 2)), (1, [1]), [1, 1],
    (1,) * 8, (1, LONG), (1, -LONG), (1, 10 ** 99), (LONG, 1), ("1",), ((1, 1),), (1, 1.0),
)
NO_TOTALS = (0, 9, -1) + NO_INTEGERS


def is_of(size, row, word):
    return word == "all" or (is_rising if word == "rising" else is_strict)(size, row)


def counted(size, many, judge):
    """For each pair of lots how many rows that the judge lets lead from a move of the one to moves of the other."""
    found = {}
    for lot in lots(size):
        start = first_move(lot)
        for row in rows(size, many):
            if judge(row):
                product = product_by_swaps(size, row)
                end = kind_of_move(tuple([product[place] for place in start]))
                found[lot, end] = found.get((lot, end), 0) + 1
    return found


def divided(one, many):
    """A number of rows from one move of a kind, divided by z."""
    found = Fraction(many, keepers(one))
    return (found.numerator, found.denominator)


class TestWeights(Case):
    def test_examples(self):
        self.runs(EXAMPLES, dict(vars(module)))

    def test_constants(self):
        told = (module.MAX_RISING, module.MAX_WEIGHED, module.MOST_SWAPS, module.MAX_ROWS)
        self.same(told, (8, 14, 200, 20000))

    def test_weighted_numbers_by_trying_all_rows(self):
        for size in range(1, 5):
            for many in range(5 if size < 4 else 4):
                for word in WORDS:
                    found = counted(size, many, lambda row: is_of(size, row, word))
                    table = weight_table(size, word, many)
                    for one in lots(size):
                        for other in lots(size):
                            tried = found.get((one, other), 0)
                            self.same(weighted_number(one, other, many, word), divided(one, tried))
                            self.same(table[one][other], tried)

    def test_all_moves_of_a_kind_have_equally_many_rows(self):
        for word in WORDS:
            tried = [product_by_swaps(4, row) for row in rows(4, 2) if is_of(4, row, word)]
            found = {}
            for start in every(4):
                ends = [kind_of_move(tuple([product[place] for place in start])) for product in tried]
                counts = tuple([ends.count(lot) for lot in lots(4)])
                found.setdefault(kind_of_move(start), set()).add(counts)
            self.assertEqual([len(counts) for counts in found.values()], [1] * 5)

    def test_weighted_numbers_from_all_moves(self):
        # Counted by its definition: all moves of the kind, each row, divided by d!.
        for word in WORDS:
            tried = [product_by_swaps(3, row) for row in rows(3, 3) if is_of(3, row, word)]
            for one in lots(3):
                for other in lots(3):
                    many = 0
                    for start in every(3):
                        if kind_of_move(start) == one:
                            many += [kind_of_move(tuple([end[place] for place in start])) for end in tried].count(other)
                    wanted = Fraction(many, 6)
                    self.same(weighted_number(one, other, 3, word), (wanted.numerator, wanted.denominator))

    def test_weighted_numbers_at_their_bounds(self):
        self.same([weighted_number((), (), many, word) for many in (0, 1) for word in WORDS], [(1, 1)] * 3 + [(0, 1)] * 3)
        ones = (1,) * 14
        for word in WORDS:
            self.same(weighted_number(ones, ones, 0, word), (1, math.factorial(14)))
            self.same(weighted_number(ones, (2,) + (1,) * 12, 1, word), (1, math.factorial(14) // 91))
        self.same(weighted_number((2,), (1, 1), 199, "rising"), (1, 2))
        self.same(weighted_number((2,), (1, 1), 200, "rising"), (0, 1))
        # From the idle move all rows of so many swaps lead to some kind.
        for word in WORDS:
            for many in (13, 200):
                added = sum([Fraction(*weighted_number(ones, lot, many, word)) for lot in lots(14)])
                self.assertEqual(added * math.factorial(14), row_number(14, many, word))
        self.same(weighted_number(ones, (14,), 13, "strict"), (1, 14))

    def test_errors_of_weighted_numbers(self):
        counts = (-1, 201) + NO_INTEGERS
        self.refuses_in_order(weighted_number, ((2, 1), InvalidLot, NO_LOTS), ((3,), InvalidLot, NO_LOTS),
                              (200, InvalidCount, counts), ("all", UnknownName, NO_WORDS))
        self.refuses(InvalidOperation, weighted_number, (2, 1), (4,), -1, "none")
        self.refuses(InvalidOperation, weighted_number, (15,), (1,), -1, "none")
        for high in HIGH:
            self.refuses(TooMany, weighted_number, high, high, 1, "all", kept=(14,))
            self.refuses(InvalidCount, weighted_number, high, high, 201, "all", kept=(201,))
            self.refuses(UnknownName, weighted_number, high, high, 1, "none", kept=("none",))

    def test_mixed_numbers_by_trying_all_rows(self):
        mixes = ((), (("strict", 1), ("rising", 2)), (("all", 1), ("strict", 2)), (("rising", 2), ("rising", 1)),
                 (("all", 0), ("strict", 2), ("strict", 1)))
        for mix in mixes:
            total = sum([many for _, many in mix])

            def is_mixed(row):
                start = 0
                for word, many in mix:
                    if not is_of(3, row[start:start + many], word):
                        return False
                    start += many
                return True

            found = counted(3, total, is_mixed)
            for one in lots(3):
                for other in lots(3):
                    wanted = divided(one, found.get((one, other), 0))
                    self.same(mixed_number(one, other, mix), wanted)
                    self.same(mixed_number(one, other, mix[::-1]), wanted)

    def test_mixed_numbers_of_one_word(self):
        for word in WORDS:
            self.same(mixed_number((4, 2), (3, 3), ((word, 6),)), weighted_number((4, 2), (3, 3), 6, word))
        split = tuple([("all", 60)] * 3 + [("all", 20)])
        self.same(mixed_number((4, 2), (3, 3), split), weighted_number((4, 2), (3, 3), 200, "all"))
        self.same(mixed_number((2, 1), (2, 1), ()), (1, 2))
        self.same(mixed_number((2, 1), (3,), ()), (0, 1))
        long = mixed_number((1,) * 14, (2,) * 7, (("rising", 60), ("strict", 13)) * 3)
        self.assertGreater(long[0], 0)

    def test_errors_of_mixed_numbers(self):
        self.refuses_in_order(mixed_number, ((2, 1), InvalidLot, NO_LOTS), ((3,), InvalidLot, NO_LOTS),
                              ((("all", 60),) * 6, InvalidMix, NO_MIXES))
        self.refuses(InvalidOperation, mixed_number, (2, 1), (4,), None)
        for high in HIGH:
            self.refuses(TooMany, mixed_number, high, high, (), kept=(14,))
            self.refuses(InvalidMix, mixed_number, high, high, (("all", 61),))

    def test_series_numbers_by_rising_rows(self):
        # Of a rising row each place brings the member of the weight at how often it is the greater one.
        for weight in ((1,), (1, 1), (1, 1, 2), (1, 0, -3, 5), (1, 2, 0, 0, 0, 0, 7)):
            for many in range(5):
                found = {}
                for one in lots(3):
                    start = first_move(one)
                    for row in rows(3, many):
                        if is_rising(3, row):
                            product = product_by_swaps(3, row)
                            end = kind_of_move(tuple([product[place] for place in start]))
                            high = [swap[1] for swap in row]
                            share = math.prod([(weight + (0,) * 9)[high.count(place)] for place in (1, 2)])
                            found[one, end] = found.get((one, end), 0) + share
                for one in lots(3):
                    for other in lots(3):
                        self.same(series_number(one, other, many, weight), divided(one, found.get((one, other), 0)))

    def test_series_numbers_of_strict_and_rising_rows(self):
        for one in lots(6):
            for other in lots(6):
                for many in (0, 3, 6):
                    strict = weighted_number(one, other, many, "strict")
                    rising = weighted_number(one, other, many, "rising")
                    self.same(series_number(one, other, many, (1, 1)), strict)
                    self.same(series_number(one, other, many, (1,) * 7), rising)
        self.same(series_number((), (), 0, (1,)), (1, 1))
        self.same(series_number((), (), 40, (1, 5)), (0, 1))
        found = series_number((14,), (14,), 40, (1,) + (LONG - 1,) * 6)
        self.assertGreater(abs(found[0]), LONG)

    def test_errors_of_series_numbers(self):
        counts = (-1, 41) + NO_INTEGERS
        self.refuses_in_order(series_number, ((2, 1), InvalidLot, NO_LOTS), ((3,), InvalidLot, NO_LOTS),
                              (40, InvalidCount, counts), ((1,) * 7, InvalidMix, NO_WEIGHTS))
        self.refuses(InvalidOperation, series_number, (2, 1), (4,), 41, None)
        for high in HIGH:
            self.refuses(TooMany, series_number, high, high, 1, (1,), kept=(14,))
            self.refuses(InvalidMix, series_number, high, high, 1, (2,))
            self.refuses(InvalidCount, series_number, high, high, 41, (2,), kept=(41,))

    def test_weight_tables(self):
        for word in WORDS:
            for many in (0, 2, 5, 200):
                table = weight_table(8, word, many)
                self.same(list(table), list(lots(8)))
                for one, row in table.items():
                    self.same(list(row), list(lots(8)))
                    self.assertEqual(sum(row.values()), row_number(8, many, word))
                    self.assertTrue(all([isinstance(number, int) for number in row.values()]))
                self.same(table[(4, 4)][(8,)], table[(8,)][(4, 4)] * keepers((4, 4)) // keepers((8,)))
        self.same(weight_table(1, "rising", 0), {(1,): {(1,): 1}})
        self.refuses_in_order(weight_table, (8, InvalidCount, NO_TOTALS), ("strict", UnknownName, NO_WORDS),
                              (200, InvalidCount, (-1, 201) + NO_INTEGERS))

    def test_rising_bottom(self):
        for total in range(1, 9):
            wanted = Formula.plain(1, 1)
            for content in range(-total, total + 1):
                # As often as it stands in some diagram of so many squares.
                most = max([contents(shape).count(content) for shape in lots(total)])
                factor = Formula(1, {(0,): 1, (1,): -content})
                wanted = wanted.times(factor.raised(most))
            found = rising_bottom(total)
            self.assertIsInstance(found, Formula)
            self.assertEqual(found, wanted)
        self.same(str(rising_bottom(1)), "1")
        self.refuses_in_order(rising_bottom, (8, InvalidCount, NO_TOTALS))

    def test_rising_top(self):
        for total in (1, 2, 3, 5):
            bottom = rising_bottom(total)
            for one in lots(total):
                for other in lots(total):
                    top = rising_top(one, other)
                    self.same(top.letters, 1)
                    if total > 1:
                        self.assertLess(top.degree, bottom.degree)
                    for power in range(2 * bottom.degree + 6):
                        entry = Fraction(0)
                        for (low,), pair in bottom.terms.items():
                            if low <= power:
                                number = weighted_number(one, other, power - low, "rising")
                                entry += Fraction(*pair) * Fraction(*number)
                        wanted = (entry.numerator, entry.denominator)
                        self.same(top.coefficient_at((power,)), wanted)
        for one in ((8,), (1,) * 8, (4, 2, 2)):
            top, bottom = rising_top(one, (5, 3)), rising_bottom(8)
            spot = (1, 1000)
            wanted = sum([Fraction(*weighted_number(one, (5, 3), many, "rising")) / 1000 ** many for many in range(60)])
            found = Fraction(*top.at((spot,))) / Fraction(*bottom.at((spot,)))
            self.assertLess(abs(found - wanted), Fraction(1, 10 ** 100))
        self.same(str(rising_top((), ())), "1")
        self.same(str(rising_top((1,), (1,))), "1")

    def test_errors_of_rising_top(self):
        self.refuses_in_order(rising_top, ((2, 1), InvalidLot, NO_LOTS), ((3,), InvalidLot, NO_LOTS))
        self.refuses(InvalidOperation, rising_top, (2, 1), (4,))
        self.refuses(InvalidOperation, rising_top, (9,), (10,))
        for high in ((9,), (1,) * 9, (24,)):
            self.refuses(TooMany, rising_top, high, high, kept=(8,))

    def test_cycle_tables_by_trying_all_moves(self):
        for size in range(1, 5):
            for number in (-7, -1, 0, 1, 2, 5, LONG - 1):
                table = cycle_table(size, number)
                self.same(list(table), list(lots(size)))
                for one in lots(size):
                    start, wanted = first_move(one), {lot: 0 for lot in lots(size)}
                    for move in every(size):
                        end = kind_of_move(tuple([move[place] for place in start]))
                        wanted[end] += number ** len(cycles(move))
                    self.same(table[one], wanted)

    def test_cycle_tables_by_strict_rows(self):
        for number in (3, -2):
            table = cycle_table(6, number)
            for one in lots(6):
                for other in lots(6):
                    parts = [number ** (6 - many) * weight_table(6, "strict", many)[one][other] for many in range(6)]
                    self.assertEqual(table[one][other], sum(parts))

    def test_inverse_tables(self):
        for size, number in ((1, 1), (2, -2), (3, 3), (4, -9), (5, 5), (8, 8), (8, 1 - LONG)):
            table, back = cycle_table(size, number), inverse_table(size, number)
            self.same(list(back), list(lots(size)))
            for one in lots(size):
                self.same(list(back[one]), list(lots(size)))
                for other in lots(size):
                    added = sum([table[one][lot] * Fraction(*back[lot][other]) for lot in lots(size)])
                    self.assertEqual(added, 1 if one == other else 0)

    def test_inverse_tables_by_rising_rows(self):
        back = inverse_table(3, 100)
        for one in lots(3):
            for other in lots(3):
                parts = [Fraction((-1) ** many * weight_table(3, "rising", many)[one][other], 100 ** (3 + many))
                         for many in range(50)]
                self.assertLess(abs(sum(parts) - Fraction(*back[one][other])), Fraction(1, 10 ** 60))

    def test_errors_of_cycle_and_inverse_tables(self):
        self.refuses_in_order(cycle_table, (8, InvalidCount, NO_TOTALS), (0, InvalidCount, NO_INTEGERS))
        self.refuses_in_order(inverse_table, (8, InvalidCount, NO_TOTALS), (-8, InvalidCount, NO_INTEGERS))
        for total, number in ((8, 7), (8, -7), (1, 0), (3, 2), (3, 0)):
            self.refuses(InvalidOperation, inverse_table, total, number)
        self.refuses(InvalidCount, inverse_table, 9, 0, kept=(9,))

    def test_rising_rows_by_trying_all(self):
        for size in range(1, 5):
            for many in range(5):
                found = {move: [] for move in every(size)}
                for row in rows(size, many):
                    if is_rising(size, row):
                        found[product_by_swaps(size, row)].append(row)
                for move, wanted in found.items():
                    self.same(list(rising_rows(size, many, move)), sorted(wanted))
        self.assertIsInstance(rising_rows(3, 2, (0, 1, 2)), types.GeneratorType)

    def test_rising_rows_at_their_bounds(self):
        self.same(list(rising_rows(2, 12, (0, 1))), [((0, 1),) * 12])
        self.same(list(rising_rows(1, 12, (0,))), [])
        self.same(list(rising_rows(1, 0, (0,))), [()])
        ended = sum([len(list(rising_rows(3, 12, move))) for move in every(3)])
        self.assertEqual(ended, row_number(3, 12, "rising"))
        self.assertEqual(len(list(rising_rows(8, 3, (1, 0, 2, 3, 4, 5, 6, 7)))),
                         weight_table(8, "rising", 3)[(1,) * 8][(2, 1, 1, 1, 1, 1, 1)] // 28)
        late = rising_rows(8, 12, tuple(range(8)))
        self.refuses(TooMany, next, late, kept=(20000,))
        # Just what is above 20,000 rising rows, whatever their product, is refused.
        for size in range(1, 9):
            for many in range(13):
                call = first_of(lambda *rest: itertools.chain(rising_rows(*rest), [None]))
                if row_number(size, many, "rising") > 20000:
                    self.refuses(TooMany, call, size, many, tuple(range(size)), kept=(20000,))
                else:
                    call(size, many, tuple(range(size)))

    def test_errors_of_rising_rows(self):
        self.refuses_in_order(first_of(rising_rows), (3, InvalidCount, NO_TOTALS), (2, InvalidCount, (-1, 13) + NO_INTEGERS),
                              ((1, 2, 0), InvalidMove, NO_MOVES + ((0, 1), (0, 1, 2, 3))))
        self.refuses(InvalidMove, first_of(rising_rows), 8, 12, (0, 1))

    def test_rising_rows_are_ways_to_share(self):
        # Things among lots that are not empty: the last thing is alone, or with one of the lots.
        def shared(things, among):
            if things == 0 or among == 0:
                return int(things == among)
            return among * shared(things - 1, among) + shared(things - 1, among - 1)

        for size in range(2, 9):
            for many in range(9):
                self.same(row_number(size, many, "rising"), shared(size + many - 1, size - 1))

    def test_what_is_not_true(self):
        self.assertTrue(any([top < 0 for top, _ in rising_top((2, 2), (4,)).terms.values()]))
        self.assertEqual(weighted_number((1, 1, 1), (2, 1), 3, "all")[1], 2)
