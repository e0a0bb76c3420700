"""Stage 13: one side with a single cycle [13.1] to [13.7], and [0.17] as far as it speaks of it."""

import itertools
import math
from fractions import Fraction

from support import ANY_VALUES, LONG, NO_INTEGERS, Case, pair
from test_linked import joins
from test_lots import NO_LOTS, kind_of_move
from test_moves import product_by_swaps, rows

from swapsheets.base.formulas import Formula
from swapsheets.errors import InvalidCount, InvalidLot, InvalidOperation
from swapsheets.linked.numbers import linked_number, swaps_of_genus
from swapsheets.moving.moves import first_move
from swapsheets.oneside import formulas as module
from swapsheets.oneside.formulas import is_one_swap_less, one_side_entry, one_side_formula, one_side_in_ends, one_side_number
from swapsheets.oneside.formulas import one_swap_less, round_rows, sheet_series
from swapsheets.squares.lots import lots, renamings
from swapsheets.strings.tales import linked_sum, tales_number
from swapsheets.walking.walks import rows_from, rows_number

EXAMPLES = """
>>> [one_side_number(lot, genus) for lot, genus in (((2, 1), 1), ((2,), 0), ((1, 1, 1), 0), ((2, 2), 2), ((1,), 1))], one_side_entry((3, 1), 2)
([(9, 1), (1, 2), (6, 1), (976, 1), (0, 1)], (27, 640))
>>> [sheet_series(3), str(one_side_formula(1)), str(one_side_in_ends(1, 1)), str(one_side_in_ends(0, 3)), one_side_in_ends(1, 2).at((2, 1))]
[((1, 24), (-1, 2880), (1, 181440)), '1/24*a - 1/24', '1/12*a^3 - 1/12*a', '2*a + 2*b + 2*c', (9, 1)]
>>> [round_rows(4, 0), round_rows(3, 1), round_rows(4, 1), round_rows(3, 2), one_swap_less((2, 1), 1)]
[16, 27, 640, 243, ((0, (1, 1, 1), (1, 2)), (1, (3,), (3, 1)))]
>>> one_side_number((), 0)
raises InvalidLot
"""
NO_ENDS = NO_LOTS + ((),)
NO_GENERA = (-1, 21) + NO_INTEGERS


def series_of_s(most, scale=1):
    """The entries of S(k t) at the even powers of t."""
    return [Fraction(scale ** (2 * at), 4 ** at * math.factorial(2 * at + 1)) for at in range(most + 1)]


def product_of_series(one, other):
    return [sum([one[at] * other[power - at] for at in range(power + 1)]) for power in range(len(one))]


def entry_by_series(lot, genus):
    """The entry of the product of all S(k t), divided by S(t) by long division."""
    product = [Fraction(1)] + [Fraction(0)] * genus
    for member in lot:
        product = product_of_series(product, series_of_s(genus, member))
    base, found = series_of_s(genus), []
    for power in range(genus + 1):
        found.append(product[power] - sum([found[at] * base[power - at] for at in range(power)]))
    return found[genus]


def number_by_series(lot, genus):
    many = 2 * genus - 1 + len(lot)
    return math.factorial(many) * Fraction(sum(lot)) ** (many - 1) * entry_by_series(lot, genus)


def less_by_rule(lot, genus):
    """The factors of one swap less, by the places of the members."""
    found = {}
    for one, other in itertools.combinations(range(len(lot)), 2):
        rest = [member for at, member in enumerate(lot) if at not in (one, other)]
        key = (genus, tuple(sorted(rest + [lot[one] + lot[other]], reverse=True)))
        found[key] = found.get(key, 0) + Fraction(lot[one] + lot[other])
    for at, member in enumerate(lot if genus else ()):
        for first in range(1, member):
            key = (genus - 1, tuple(sorted(lot[:at] + lot[at + 1:] + (first, member - first), reverse=True)))
            found[key] = found.get(key, 0) + Fraction(first * (member - first), 2)
    return tuple([key + (pair(found[key]),) for key in sorted(found)])


class TestOneSide(Case):
    def test_examples(self):
        self.runs(EXAMPLES, dict(vars(module)))

    def test_constants(self):
        self.same((module.MAX_SUM, module.MAX_GENUS, module.MAX_TOLD), (24, 20, 6))

    def test_sheet_series(self):
        found = sheet_series(20)
        self.same(len(found), 20)
        # The derived series of S is that of the logarithm, times S.
        base = series_of_s(20)
        for power in range(1, 21):
            added = sum([at * Fraction(*found[at - 1]) * base[power - at] for at in range(1, power + 1)])
            self.assertEqual(added, power * base[power])
        for most in range(1, 21):
            self.same(sheet_series(most), found[:most])
        self.refuses_in_order(sheet_series, (20, InvalidCount, (0,) + NO_GENERA))

    def test_entries_by_series(self):
        for total in range(1, 8):
            for lot in lots(total):
                for genus in range(5):
                    self.same(one_side_entry(lot, genus), pair(entry_by_series(lot, genus)))
                    self.same(one_side_number(lot, genus), pair(number_by_series(lot, genus)))
                self.same(one_side_entry(lot, 0), (1, 1))
        for lot in ((24,), (1,) * 24, (9, 7, 5, 2, 1), (12, 12)):
            for genus in (0, 1, 19, 20):
                self.same(one_side_entry(lot, genus), pair(entry_by_series(lot, genus)))
                self.same(one_side_number(lot, genus), pair(number_by_series(lot, genus)))

    def test_numbers_are_connected_numbers(self):
        for total in range(1, 8):
            for lot in lots(total):
                for genus in range(4):
                    many = swaps_of_genus((total,), lot, genus)
                    number = one_side_number(lot, genus)
                    self.same(linked_number((total,), lot, many), number)
                    self.same(linked_number(lot, (total,), many), number)
                    whole = Fraction(*rows_number((total,), lot, many)) * renamings(lot)
                    self.same(number, pair(whole))
                    if many <= 12 and tales_number((total,), lot, many) <= 2000:
                        self.same(linked_sum((total,), lot, many), number)

    def test_numbers_by_trying_all_rows(self):
        for size in range(1, 5):
            around = first_move((size,))
            for lot in lots(size):
                for genus in range(2):
                    many = 2 * genus - 1 + len(lot)
                    if many > 5:
                        continue
                    found = 0
                    for row in rows(size, many):
                        self.assertTrue(joins(around, row))
                        product = product_by_swaps(size, row)
                        found += kind_of_move(tuple([product[place] for place in around])) == lot
                    # There are size rows for each one that the fraction counts.
                    self.same(one_side_number(lot, genus), pair(Fraction(found * renamings(lot), size)))

    def test_errors_of_entries_and_numbers(self):
        for call in (one_side_entry, one_side_number):
            self.refuses_in_order(call, ((24,), InvalidLot, NO_ENDS), (20, InvalidCount, NO_GENERA))

    def test_formulas_in_sums_of_powers(self):
        for genus in range(1, 7):
            found = one_side_formula(genus)
            self.assertIsInstance(found, Formula)
            self.same(found.letters, genus)
            for total in (1, 2, 5, 9, 24):
                for lot in lots(total)[::max(1, len(lots(total)) // 6)]:
                    values = tuple([sum([member ** (2 * at) for member in lot]) for at in range(1, genus + 1)])
                    self.same(found.at(values), one_side_entry(lot, genus))
        self.same(one_side_formula(1).terms, {(1,): (1, 24), (0,): (-1, 24)})
        self.refuses_in_order(one_side_formula, (6, InvalidCount, (0, 7, -1) + NO_INTEGERS))

    def test_formulas_in_ends(self):
        for genus in range(4):
            for ends in range(1, 5):
                if (genus, ends) == (0, 1):
                    continue
                found = one_side_in_ends(genus, ends)
                self.assertIsInstance(found, Formula)
                self.same(found.letters, ends)
                degree = 4 * genus - 2 + ends
                self.same(found.degree, degree)
                terms = found.terms
                self.assertTrue(all([(degree - sum(exponents)) % 2 == 0 for exponents in terms]))
                for exponents, number in terms.items():
                    for others in itertools.permutations(exponents):
                        self.assertEqual(terms[others], number)
                for total in range(ends, 10):
                    for lot in lots(total):
                        if len(lot) == ends:
                            self.same(found.at(lot), one_side_number(lot, genus))
                            self.same(found.at(lot[::-1]), one_side_number(lot, genus))
        self.same(str(one_side_in_ends(0, 2)), "1")

    def test_errors_of_formulas_in_ends(self):
        self.refuses_in_order(one_side_in_ends, (3, InvalidCount, (-1, 4) + NO_INTEGERS), (4, InvalidCount, (0, 5, -1) + NO_INTEGERS))
        self.refuses_in_order(lambda ends: one_side_in_ends(0, ends), (2, InvalidCount, (0, 5, -1) + NO_INTEGERS))
        self.refuses(InvalidOperation, one_side_in_ends, 0, 1)

    def test_rows_with_a_round_product(self):
        for size in range(1, 5):
            for genus in range(3):
                many = size - 1 + 2 * genus
                if size == 4 and many > 5:
                    continue
                tried = [product_by_swaps(size, row) for row in rows(size, many)]
                self.same(round_rows(size, genus), tried.count(first_move((size,))))
        for size in range(1, 25):
            self.same(round_rows(size, 0), size ** (size - 2) if size > 1 else 1)
        for size in range(1, 15):
            for genus in (1, 2, 20):
                ones = Fraction(*one_side_number((1,) * size, genus)) / math.factorial(size - 1)
                self.same(pair(ones), (round_rows(size, genus), 1))
                many = size - 1 + 2 * genus
                # From the idle move there are as many rows to each move with one cycle.
                self.assertEqual(rows_from((1,) * size, (size,), many), round_rows(size, genus) * math.factorial(size - 1))
        self.same([round_rows(1, genus) for genus in (0, 1, 20)], [1, 0, 0])
        self.same([round_rows(2, genus) for genus in (0, 1, 20)], [1, 1, 1])
        self.assertGreater(round_rows(24, 20), 24 ** 22)
        self.refuses_in_order(round_rows, (24, InvalidCount, (0, 25, -1) + NO_INTEGERS), (20, InvalidCount, NO_GENERA))

    def test_one_swap_less(self):
        for total in range(1, 8):
            for lot in lots(total):
                for genus in range(4):
                    if 2 * genus - 1 + len(lot) == 0:
                        continue
                    found = one_swap_less(lot, genus)
                    self.same(found, less_by_rule(lot, genus))
                    self.assertIs(is_one_swap_less(lot, genus, found), True)
                    added = sum([Fraction(*factor) * Fraction(*one_side_number(less, here)) for here, less, factor in found])
                    self.same(one_side_number(lot, genus), pair(added))
        for lot in ((24,), (1,) * 24, (12, 11, 1), (5, 5, 5, 4, 3, 2)):
            for genus in (1, 20):
                self.same(one_swap_less(lot, genus), less_by_rule(lot, genus))
        self.same([one_swap_less((1,), genus) for genus in (1, 20)], [(), ()])
        self.same(one_swap_less((1, 1), 0), ((0, (2,), (2, 1)),))

    def test_is_one_swap_less(self):
        right = ((0, (1, 1, 1), (1, 2)), (1, (3,), (3, 1)))
        first, second = right
        wrong = ((), right[:1], right[1:], right[::-1], right + right[1:], list(right), (list(first), second), (first, second, None),
                 ((False, (1, 1, 1), (1, 2)), second), (first, (True, (3,), (3, 1))), ((0, (1, True, 1), (1, 2)), second),
                 ((0, (1, 1, 1), (True, 2)), second), (first, (1, (3,), (3, True))), (first, (1, (3,), 3)), (first, (1, (3,), (6, 2))),
                 (first, (1, (3,), [3, 1])), (first, (1, [3], (3, 1))), ((0, (1, 1, 1), (1, 3)), second), (first, (1, (3,))),
                 ((0, (1, 1, 1), (1, 2), 0), second), ((1, (1, 1, 1), (1, 2)), second), ((LONG, (1, 1, 1), (1, 2)), second),
                 (first, second, (1, (3,), (0, 1))), ((0, (1, 1, 1), (1, 4)), (0, (1, 1, 1), (1, 4)), second), first)
        self.judges(lambda value: is_one_swap_less((2, 1), 1, value), [right], wrong + ANY_VALUES)
        self.judges(lambda value: is_one_swap_less((1,), 1, value), [()], [((),), [], None, 0, False, {}, right])

    def test_errors_of_one_swap_less(self):
        for call in (one_swap_less, lambda lot, genus: is_one_swap_less(lot, genus, None)):
            self.refuses_in_order(call, ((2, 1), InvalidLot, NO_ENDS), (20, InvalidCount, NO_GENERA))
            for size in (1, 2, 24):
                self.refuses(InvalidOperation, call, (size,), 0)
                self.refuses(InvalidCount, call, (size,), 21, kept=(21,))

    def test_what_is_not_true(self):
        self.same(one_side_number((2,), 0), (1, 2))
        for genus in (1, 2, 20):
            self.same(one_side_number((1,), genus), (0, 1))
            self.assertGreater(one_side_number((2,), genus)[0], 0)
        found = {one_side_formula(1).at((sum([member ** 2 for member in lot]),)) for lot in ((3, 1), (2, 2))}
        self.assertEqual(len(found), 2)
