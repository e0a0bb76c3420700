"""Stage 7: contents, and sums of swaps [7.1] to [7.5], and [0.16]."""

import itertools
import math

from support import LONG, NO_INTEGERS, NO_WORDS, Case
from test_kinds import then
from test_lots import NO_LOTS, kind_of_move
from test_moves import every, product_by_swaps, rows

from swapsheets.adding import contents as module
from swapsheets.adding.contents import class_formula, made_number, power_sum, sum_times, swap_sum, symmetric_sum
from swapsheets.base.formulas import Formula
from swapsheets.charts.characters import character, class_products
from swapsheets.errors import InvalidCount, InvalidLot, InvalidMove, InvalidOperation, TooMany, UnknownName
from swapsheets.moving.moves import is_rising, is_strict
from swapsheets.squares.lots import class_size, conjugate, contents, dimension, lots

EXAMPLES = """
>>> [power_sum((3, 1), 1), power_sum((3, 1), 2), power_sum((2, 2), 3), power_sum((), 0)]
[2, 6, 0, 0]
>>> [swap_sum(3, 2), swap_sum(3, 0), sum_times(swap_sum(3, 1), swap_sum(3, 2)), symmetric_sum(3, "strict", 2)]
[{(0, 2, 1): 1, (2, 1, 0): 1}, {}, {(1, 2, 0): 1, (2, 0, 1): 1}, {(1, 2, 0): 1, (2, 0, 1): 1}]
>>> [symmetric_sum(3, "rising", 2), symmetric_sum(3, "powers", 2), made_number((2, 1), symmetric_sum(3, "rising", 2))]
[{(0, 1, 2): 3, (1, 2, 0): 2, (2, 0, 1): 2}, {(0, 1, 2): 3, (1, 2, 0): 1, (2, 0, 1): 1}, 1]
>>> [str(class_formula((2,))), str(class_formula((3,))), class_formula((4,)).at((5, 2, 6, 8)), class_formula(()).letters]
['b', '-1/2*a^2 + 1/2*a + c', (-6, 1), 1]
>>> class_formula((2, 1))
raises InvalidLot
"""
WORDS = ("strict", "rising", "powers")
# No sums of moves of at most five places.
NO_MOVES_SUMS = (
    True, False, None, 0, 1, "", "a", (), (1,), ((0,), 1), [], [((0,), 1)], LONG, Formula.plain(1, 1), {},
    {0: 1}, {None: 1}, {"a": 1}, {(): 1}, {(1,): 1}, {(0, 0): 1}, {(0, 2): 1}, {(False,): 1}, {(False, True): 1},
    {(0, True): 1}, {(0, 1): 0}, {(0, 1): True}, {(0, 1): False}, {(0, 1): None}, {(0, 1): "1"}, {(0, 1): (1, 1)},
    {(0, 1): [1]}, {(0, 1): LONG}, {(0, 1): -LONG}, {(0, 1): 1, (0,): 1}, {(0, 1): 1, (1, 0): 0},
    {(0, 1): 1, (1, 0): None}, {(0, 1): 1, None: 1}, {(0, 1, 2, 3, 4, 5): 1}, {tuple(range(24)): 1}, {((0, 1),): 1},
    {(0, 1): Formula.plain(1, 1)}, {(0, 1): {}},
)


def product_of_sums(one, other):
    """By the definition: at each move the sum over all u and v."""
    size = len(next(iter({**one, **other}), (0,)))
    found = {}
    for move in every(size):
        entry = sum([one[u] * other[v] for u in one for v in other if then(u, v) == move])
        if entry:
            found[move] = entry
    return found


def total_of(parts):
    found = {}
    for part in parts:
        for move, entry in part.items():
            found[move] = found.get(move, 0) + entry
    return {move: found[move] for move in sorted(found) if found[move]}


def power_of_sum(part, many, size):
    made = {tuple(range(size)): 1}
    for _ in range(many):
        made = product_of_sums(made, part) if part else {}
    return made


def elementary(values, many):
    return sum([math.prod(some) for some in itertools.combinations(values, many)])


def complete(values, many):
    return sum([math.prod(some) for some in itertools.combinations_with_replacement(values, many)])


def made_by_kinds(shape, entries):
    """The sum over all kinds of the entry times the class size times the character, divided by the dimension."""
    whole = sum([entry * class_size(lot) * character(shape, lot) for lot, entry in entries.items()])
    assert whole % dimension(shape) == 0
    return whole // dimension(shape)


def class_sum(lot, entry=1):
    return {move: entry for move in every(sum(lot)) if kind_of_move(move) == lot}


class TestContents(Case):
    def test_examples(self):
        self.runs(EXAMPLES, dict(vars(module)))

    def test_constants(self):
        self.same((module.MAX_ADDED, module.MOST_MOVED, module.MOST_EXPONENT), (5, 6, 40))

    def test_power_sums(self):
        for total in (0, 1, 4, 7):
            for shape in lots(total):
                for many in (0, 1, 2, 3, 40):
                    wanted = sum([content ** many for content in contents(shape)])
                    self.same(power_sum(shape, many), wanted)
                self.same(power_sum(shape, 0), total)
        self.same(power_sum((24,), 40), sum([content ** 40 for content in range(24)]))
        self.same(power_sum((), 40), 0)
        self.refuses_in_order(power_sum, ((24,), InvalidLot, NO_LOTS), (40, InvalidCount, (-1, 41) + NO_INTEGERS))

    def test_swap_sums(self):
        for size in range(1, 6):
            for place in range(size):
                found = swap_sum(size, place)
                wanted = sorted([product_by_swaps(size, ((low, place),)) for low in range(place)])
                self.same(found, {move: 1 for move in wanted})
        self.same([swap_sum(1, 0), swap_sum(5, 0)], [{}, {}])
        self.refuses_in_order(swap_sum, (5, InvalidCount, (0, 6, -1) + NO_INTEGERS),
                              (4, InvalidCount, (-1, 5) + NO_INTEGERS))
        self.refuses(InvalidCount, swap_sum, 3, 3, kept=(3,))
        self.refuses(InvalidCount, swap_sum, 6, 6, kept=(6,))

    def test_swap_sums_commute(self):
        for size in range(2, 6):
            for one in range(1, size):
                for other in range(1, size):
                    here = sum_times(swap_sum(size, one), swap_sum(size, other))
                    self.same(here, sum_times(swap_sum(size, other), swap_sum(size, one)))

    def test_sum_times_by_its_definition(self):
        sums = [{(0, 1, 2): 2, (1, 2, 0): -3, (0, 2, 1): 1}, {(1, 0, 2): 5}, {move: at - 2 or 7 for at, move in enumerate(every(3))}]
        for one in sums:
            for other in sums:
                kept = (dict(one), dict(other))
                found = sum_times(one, other)
                self.same(found, product_of_sums(one, other))
                self.same((one, other), kept)
        # One and then the other one: the sequence matters.
        self.same(sum_times({(1, 0, 2): 1}, {(0, 2, 1): 1}), {(2, 0, 1): 1})
        self.same(sum_times({(0, 2, 1): 1}, {(1, 0, 2): 1}), {(1, 2, 0): 1})
        self.same(sum_times({(0, 1): 1, (1, 0): 1}, {(0, 1): 1, (1, 0): -1}), {})
        self.same(sum_times({(0,): LONG - 1}, {(0,): 1 - LONG}), {(0,): -(LONG - 1) ** 2})
        whole = {move: at + 1 for at, move in enumerate(every(5))}
        self.assertEqual(sum(sum_times(whole, whole).values()), sum(whole.values()) ** 2)
        self.same(list(sum_times(whole, whole)), every(5))

    def test_errors_of_sum_times(self):
        good = {(0, 1): 1, (1, 0): LONG - 1}
        self.refuses_in_order(sum_times, (good, InvalidMove, NO_MOVES_SUMS), (good, InvalidMove, NO_MOVES_SUMS))
        self.refuses(InvalidOperation, sum_times, {(0, 1): 1}, {(0,): 1})
        self.refuses(InvalidOperation, sum_times, {(0, 1, 2): 1}, {(0, 1, 2, 3, 4): 1})

    def test_symmetric_sums_by_rows(self):
        for size in range(1, 5):
            for many in range(5):
                for word, judge in (("strict", is_strict), ("rising", is_rising)):
                    found = {}
                    for row in rows(size, many):
                        if judge(size, row):
                            product = product_by_swaps(size, row)
                            found[product] = found.get(product, 0) + 1
                    self.same(symmetric_sum(size, word, many), {move: found[move] for move in sorted(found)})

    def test_symmetric_sums_of_powers(self):
        for size in range(1, 5):
            for many in range(1, 6):
                parts = [power_of_sum(swap_sum(size, place), many, size) for place in range(1, size)]
                self.same(symmetric_sum(size, "powers", many), total_of(parts))

    def test_symmetric_sums_at_their_edges(self):
        for size in range(1, 6):
            idle = {tuple(range(size)): 1}
            self.same(symmetric_sum(size, "strict", 0), idle)
            self.same(symmetric_sum(size, "rising", 0), idle)
            for many in range(13):
                wanted = {move: 1 for move in every(size) if len(kind_of_move(move)) == size - many}
                self.same(symmetric_sum(size, "strict", many), wanted)
        self.same([symmetric_sum(1, word, 12) for word in WORDS], [{}, {}, {}])
        self.same(symmetric_sum(2, "powers", 12), {(0, 1): 1})
        # All rising rows of twelve swaps: products with repeats of the integers from 1 to 4.
        self.assertEqual(sum(symmetric_sum(5, "rising", 12).values()), complete((1, 2, 3, 4), 12))
        self.assertEqual(sum(symmetric_sum(5, "powers", 12).values()), sum([place ** 12 for place in (1, 2, 3, 4)]))
        for word in WORDS:
            for many in range(1, 13):
                found = symmetric_sum(5, word, many)
                kinds = {}
                for move in every(5):
                    kinds.setdefault(kind_of_move(move), set()).add(found.get(move, 0))
                self.assertTrue(all([len(entries) == 1 for entries in kinds.values()]))
                self.assertEqual(list(found), sorted(found))
                self.assertNotIn(0, found.values())

    def test_errors_of_symmetric_sums(self):
        counts = (-1, 13) + NO_INTEGERS
        words = tuple([word for word in NO_WORDS]) + ("all", "power", "Strict")
        self.refuses_in_order(symmetric_sum, (5, InvalidCount, (0, 6, -1) + NO_INTEGERS), ("strict", UnknownName, words),
                              (12, InvalidCount, counts))
        self.refuses_in_order(lambda many: symmetric_sum(3, "rising", many), (0, InvalidCount, counts))
        self.refuses_in_order(lambda many: symmetric_sum(3, "powers", many), (1, InvalidCount, (0,) + counts))

    def test_made_numbers_of_symmetric_sums(self):
        for size in range(1, 6):
            for shape in lots(size):
                values = contents(shape)
                for many in range(7):
                    strict, rising = symmetric_sum(size, "strict", many), symmetric_sum(size, "rising", many)
                    if strict:
                        self.same(made_number(shape, strict), elementary(values, many))
                    if rising:
                        self.same(made_number(shape, rising), complete(values, many))
                    if many and size > 1:
                        powers = symmetric_sum(size, "powers", many)
                        self.same(made_number(shape, powers), power_sum(shape, many))

    def test_made_numbers_of_kinds(self):
        for size in range(1, 6):
            for shape in lots(size):
                for lot in lots(size):
                    self.same(made_number(shape, class_sum(lot, -3)), made_by_kinds(shape, {lot: -3}))
                for one, other in itertools.combinations(lots(size), 2):
                    both = {**class_sum(one, 2), **class_sum(other, LONG - 1)}
                    self.same(made_number(shape, both), made_by_kinds(shape, {one: 2, other: LONG - 1}))
        # Products make products.
        for shape in lots(4):
            one = {**class_sum((2, 1, 1), 2), **class_sum((4,), -1)}
            other = {**class_sum((3, 1), 5), **class_sum((2, 1, 1), 1)}
            self.same(made_number(shape, sum_times(one, other)), made_number(shape, one) * made_number(shape, other))
        products = class_products((2, 1, 1), (4,))
        self.assertEqual({lot: number for lot, number in products.items() if number},
                         {kind_of_move(move): entry for move, entry in sum_times(class_sum((2, 1, 1)), class_sum((4,))).items()})

    def test_errors_of_made_numbers(self):
        good = class_sum((2, 1))
        self.refuses_in_order(made_number, ((2, 1), InvalidLot, NO_LOTS), (good, InvalidMove, NO_MOVES_SUMS))
        uneven = ({(1, 0, 2): 1}, {(1, 0, 2): 1, (0, 2, 1): 1}, {**good, (0, 2, 1): 2}, {**good, (1, 2, 0): 1},
                  {**class_sum((3,)), (0, 2, 1): 1}, {(0, 1): 1}, {(0,): 1}, class_sum((2, 1, 1)), swap_sum(3, 2))
        for moves_sum in uneven:
            self.refuses(InvalidMove, made_number, (2, 1), moves_sum)
        for shape in ((), (6,), (24,)):
            self.refuses(InvalidMove, made_number, shape, {(0,): 1})
            self.refuses(InvalidMove, made_number, shape, {(0, 1, 2, 3, 4, 5): 1})
        self.same(made_number((1,), {(0,): 7}), 7)

    def test_class_formulas_by_all_diagrams(self):
        for weight in range(7):
            for lot in lots(weight):
                if 1 in lot:
                    continue
                found = class_formula(lot)
                letters = max(weight + len(lot) - 1, 1)
                self.same(found.letters, letters)
                for exponents in found.terms:
                    count = 2 * exponents[0] + sum([(at + 2) * many for at, many in enumerate(exponents) if at])
                    self.assertLessEqual(count, weight + len(lot))
                for total in range(10):
                    for shape in lots(total):
                        values = (total,) + tuple([power_sum(shape, many) for many in range(1, letters)])
                        made = 0
                        if total >= weight:
                            made = made_by_kinds(shape, {lot + (1,) * (total - weight): 1})
                        self.same(found.at(values), (made, 1))

    def test_class_formulas_at_great_diagrams(self):
        for lot, shape in (((6,), (5, 4, 3, 2)), ((2, 2, 2), (14,)), ((4, 2), (4, 4, 3, 1, 1)), ((3, 3), (1,) * 13), ((5,), (7, 7))):
            found = class_formula(lot)
            values = (sum(shape),) + tuple([power_sum(shape, many) for many in range(1, found.letters)])
            wanted = made_by_kinds(shape, {lot + (1,) * (sum(shape) - sum(lot)): 1})
            self.same(found.at(values), (wanted, 1))

    def test_class_formulas_of_conjugates(self):
        for lot in ((3, 2), (4, 2), (2, 2)):
            found = class_formula(lot)
            for shape in lots(8):
                here, there = [(8,) + tuple([power_sum(one, many) for many in range(1, found.letters)])
                               for one in (shape, conjugate(shape))]
                sign = (-1) ** (sum(lot) - len(lot))
                self.assertEqual(found.at(here)[0], sign * found.at(there)[0])

    def test_class_formulas_at_their_edges(self):
        self.assertEqual(class_formula(()), Formula.plain(1, 1))
        self.same(class_formula((2, 2, 2)).letters, 8)
        self.assertIsInstance(class_formula((6,)), Formula)
        ones = ((1,), (2, 1), (3, 2, 1), (5, 1), (6, 1), (2,) + (1,) * 22, (23, 1))
        self.refuses_in_order(class_formula, ((2, 2), InvalidLot, NO_LOTS + ones))
        for lot in ((7,), (5, 2), (3, 2, 2), (24,), (2,) * 12):
            self.refuses(TooMany, class_formula, lot, kept=(6,))

    def test_what_is_not_true(self):
        self.assertTrue(any([bottom > 1 for _, bottom in class_formula((3,)).terms.values()]))
        self.refuses(InvalidMove, made_number, (2, 1), swap_sum(3, 1))
