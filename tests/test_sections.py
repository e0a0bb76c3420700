"""What several sections say of the same numbers [0.13] to [0.20]."""

import math
from fractions import Fraction

from support import Case, pair
from test_kinds import moves_of, then
from test_linked import joins
from test_lots import kind_of_move
from test_moves import product_by_swaps, rows

from swapsheets.braided.braids import braid_lots_number, first_row
from swapsheets.charts.characters import character
from swapsheets.drawn.bases import joined_base_number
from swapsheets.leastrows.least import cactus_number, least_rows_number
from swapsheets.linked.numbers import linked_number, numbered_from_linked, numbered_number, rising_single_number, single_number
from swapsheets.linked.numbers import swaps_of_genus
from swapsheets.moving.moves import is_rising, is_strict
from swapsheets.oneside.formulas import one_side_number, round_rows
from swapsheets.rising.weights import weighted_number
from swapsheets.rooming.rooms import ends_number, is_ends
from swapsheets.squares.lots import class_size, content_sum, contents, keepers, lots, renamings
from swapsheets.strings.cutting import linked_sums, number_by_cutting
from swapsheets.strings.tales import linked_sum, tales_number, tales_sum
from swapsheets.torus.covers import linked_cover_number, series_of, torus_formula
from swapsheets.walking.walks import power_parts, powers_at, rows_from, rows_number


def by_characters(one, other, many):
    """H by [0.14]."""
    total = Fraction(0)
    for shape in lots(sum(one)):
        total += character(shape, one) * character(shape, other) * content_sum(shape) ** many
    return total / (keepers(one) * keepers(other))


def by_trying(one, other, many):
    """The numbers H of [0.13] and of [10.1], by all moves of the first kind and all rows."""
    whole = linked = 0
    for row in rows(sum(one), many):
        product = product_by_swaps(sum(one), row)
        for move in moves_of(one):
            if kind_of_move(then(move, product)) == other:
                whole += 1
                linked += joins(move, row)
    size = math.factorial(sum(one))
    return Fraction(whole, size), Fraction(linked, size) * renamings(one) * renamings(other)


def pairs_of_lots(most):
    return [(one, other) for total in range(1, most + 1) for one in lots(total) for other in lots(total)]


class TestSections(Case):
    def test_one_number(self):
        for one, other in pairs_of_lots(5):
            for many in (0, 1, 2, 3, 5):
                wanted = pair(by_characters(one, other, many))
                self.same(rows_number(one, other, many), wanted)
                self.same(weighted_number(one, other, many, "all"), wanted)
                self.same(number_by_cutting(one, other, many), wanted)
                self.same(powers_at(power_parts(one, other), many), wanted)
                self.same(rows_from(one, other, many), int(keepers(one) * Fraction(*wanted)))
                numbered = pair(Fraction(*wanted) * renamings(one) * renamings(other))
                if len(one + other) <= 10:
                    self.same(numbered_number(one, other, many), numbered)
                    self.same(numbered_from_linked(one, other, many), numbered)
                if tales_number(one, other, many) <= 500:
                    self.same(tales_sum(one, other, many), numbered)

    def test_numbers_by_trying_all(self):
        for one, other in pairs_of_lots(4):
            for many in (0, 1, 2, 3) if sum(one) > 3 else (0, 1, 2, 3, 4, 5):
                whole, linked = by_trying(one, other, many)
                self.same(rows_number(one, other, many), pair(whole))
                self.same(linked_number(one, other, many), pair(linked))

    def test_one_linked_number(self):
        # By the stages 10, 11, 12, 13 and 14, as far as each of them goes.
        seen = {}
        for one, other in pairs_of_lots(6):
            if len(one + other) > 10:
                continue
            ends = one + tuple([-member for member in other])
            for genus in (0, 1, 2):
                many = swaps_of_genus(one, other, genus)
                wanted = linked_number(one, other, many)
                self.same(linked_number(other, one, many), wanted)
                if one == (1,) * sum(one) and many <= 20:
                    seen["cutting"] = True
                    found = linked_sums(sum(one), many)[many].get(other, (0, 1))
                    self.same(pair(Fraction(*found) * math.factorial(sum(one)) * renamings(other)), wanted)
                    if genus == 0:
                        self.same(single_number(other), wanted)
                        self.same(rising_single_number(other), linked_number(one, other, many, word="rising"))
                if many <= 12 and tales_number(one, other, many) <= 2000:
                    seen["tales"] = True
                    self.same(linked_sum(one, other, many), wanted)
                if len(one) == 1:
                    seen["one side"] = True
                    self.same(one_side_number(other, genus), wanted)
                if genus < 2 and is_ends(ends, genus) and (len(ends) < 6 or sum(one) < 6):
                    seen["ends"] = True
                    self.same(ends_number(ends, genus), wanted)
        self.assertEqual(sorted(seen), ["cutting", "ends", "one side", "tales"])

    def test_rows_with_a_round_as_product(self):
        for size in range(2, 8):
            swaps = ((2,) + (1,) * (size - 2),) * (size - 1)
            wanted = size ** (size - 2)
            self.same(round_rows(size, 0), wanted)
            self.same(cactus_number(swaps), wanted)
            self.same(rows_from((1,) * size, (size,), size - 1), math.factorial(size - 1) * wanted)
            # Each least row of two moves is one of the kinds of both.
            whole = sum([cactus_number((one, other)) for one in lots(size) for other in lots(size)])
            self.same(least_rows_number((size,), 2), whole)

    def test_weights(self):
        # From each move of a kind there are equally many rising, and equally many strict rows.
        for one, other in pairs_of_lots(4):
            size = sum(one)
            for many in (0, 1, 2, 3):
                for word, is_of in (("rising", is_rising), ("strict", is_strict)):
                    found = {}
                    for row in rows(size, many):
                        if is_of(size, row):
                            product = product_by_swaps(size, row)
                            for move in moves_of(one):
                                if kind_of_move(then(move, product)) == other:
                                    found[move] = found.get(move, 0) + 1
                    number = Fraction(*weighted_number(one, other, many, word)) * keepers(one)
                    self.assertEqual({found.get(move, 0) for move in moves_of(one)}, {int(number)})
                    self.assertEqual(number.denominator, 1)

    def test_all_degrees(self):
        # [0.18]: by characters, by the linked covers of lesser degrees, and by the formulas for all degrees.
        for genus in (2, 3):
            many = 2 * genus - 2
            found = series_of(torus_formula(genus), 8)
            for degree in range(1, 9):
                self.same(found[degree], linked_cover_number(degree, many))
                if degree > 1:
                    kinds = ((2,) + (1,) * (degree - 2),) * many
                    self.same(joined_base_number(1, degree, *kinds), found[degree])

    def test_braid_moves(self):
        # [0.19]: as many braid lots of linked rows as kinds of products, each for all of its moves.
        for size, many in ((3, 4), (4, 3), (4, 4), (5, 3)):
            told = {}
            for row in rows(size, many):
                joins_all = joins(tuple(range(size)), row)
                told.setdefault(first_row(size, row), []).append((product_by_swaps(size, row), joins_all))
            self.same(braid_lots_number(size, many), len(told))
            for lot in lots(size):
                found = [len(rows_of) for rows_of in told.values() if kind_of_move(rows_of[0][0]) == lot and rows_of[0][1]]
                number = Fraction(*linked_number((1,) * size, lot, many)) / renamings(lot)
                self.assertEqual(sum(found), number)
                self.assertEqual(len(found), class_size(lot) if number else 0)

    def test_what_is_not_true(self):
        self.assertEqual(rows_number((2,), (2,), 0), (1, 2))
        self.assertTrue(is_rising(3, ((0, 1), (0, 2))))
        self.assertFalse(is_rising(3, ((0, 2), (0, 1))))
        self.assertEqual(sorted(contents((2, 1))), [-1, 0, 1])
        # Numbers are formulas in each room, and not in all: here 2 * a, and 2 * b.
        self.assertEqual([ends_number(ends, 0) for ends in ((5, 1, -3, -3), (1, 5, -3, -3))], [(10, 1), (10, 1)])
