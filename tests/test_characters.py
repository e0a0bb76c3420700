"""Stage 6: characters [6.1] to [6.7]."""

import itertools
from fractions import Fraction

from support import ANY_VALUES, LONG, NO_INTEGERS, NO_TUPLES, Case
from test_lots import NO_LOTS, kind_of_move
from test_numbers import NO_NUMBERS

from swapsheets.charts import characters as module
from swapsheets.charts.characters import central_number, character, character_column, character_row, character_table
from swapsheets.charts.characters import class_products, is_character_row, rims_put, shares_of, values_of
from swapsheets.errors import InvalidCount, InvalidLot, InvalidOperation, TooMany
from swapsheets.squares.lots import class_size, conjugate, content_sum, dimension, keepers, lots, rims

EXAMPLES = """
>>> [character((4, 2, 1), (3, 2, 2)), character((3, 2, 1), (3, 3)), character((), ()), character_table(3)]
[-1, -2, 1, ((1, -1, 1), (2, 0, -1), (1, 1, 1))]
>>> [central_number((3, 1), (2, 1, 1)), central_number((2, 2), (2, 2)), rims_put((2, 1), 2), character_column((2, 1))]
[2, 3, (((2, 1, 1, 1), -1), ((4, 1), 1)), {(1, 1, 1): -1, (2, 1): 0, (3,): 1}]
>>> [class_products((2, 1, 1), (2, 1, 1)), is_character_row({(1, 1): 1, (2,): -1}), is_character_row({(1, 1): -1, (2,): 1})]
[{(1, 1, 1, 1): 6, (2, 1, 1): 0, (2, 2): 2, (3, 1): 3, (4,): 0}, True, False]
>>> [shares_of({(1, 1, 1): 3, (2, 1): 1, (3,): 0}), values_of({(1, 1): (1, 2), (2,): (1, 2)})]
[{(1, 1, 1): (0, 1), (2, 1): (1, 1), (3,): (1, 1)}, {(1, 1): (1, 1), (2,): (0, 1)}]
>>> character((2, 1), (2, 2))
raises InvalidOperation
"""
HIGH = ((15,), (1,) * 15, (24,), (1,) * 24)
# No dicts from all lots of one sum to numbers.
NO_VALUES = (
    True, False, None, 0, 1, "", "a", (), (1,), [], [1], {}, {1: 1}, {None: 1}, {(2,): 1}, {(1, 1): 1}, {"a": 1, "b": 2},
    {(1, 1): 1, (2,): 1, (3,): 1}, {(1, 1): 1, (2,): 1, (): 1}, {(True,): 1}, {(1, True): 1, (2,): 1},
    {(1, 2): 1, (1, 1, 1): 1, (3,): 1}, {(1, 1): True, (2,): 1}, {(1, 1): None, (2,): 1}, {(1, 1): (2, 4), (2,): 1},
    {(1, 1): "1", (2,): 1}, {(1, 1): [1], (2,): 1}, {(): None}, {(): (1, 0)}, (((1,), 1),), [((1,), 1)],
    {lot: 1 for lot in lots(15)}, {lot: 1 for lot in lots(14)[1:]}, {(LONG,): 1},
)


def by_rims(shape, members):
    """The character by rims of the members in just this sequence."""
    if not members:
        return 1 if shape == () else 0
    return sum([sign * by_rims(less, members[1:]) for less, sign in rims(shape, members[0])])


def by_putting(lot):
    """All characters at a lot, by rims that are put on one after the other."""
    found = {(): 1}
    for member in lot:
        behind = {}
        for shape, number in found.items():
            for more, sign in rims_put(shape, member):
                behind[more] = behind.get(more, 0) + sign * number
        found = behind
    return found


class TestCharacters(Case):
    def test_examples(self):
        self.runs(EXAMPLES, dict(vars(module)))
        self.same(module.MAX_CHARTED, 14)

    def test_characters_by_rims_in_every_sequence(self):
        for total in range(7):
            for shape in lots(total):
                for lot in lots(total):
                    found = character(shape, lot)
                    for members in set(itertools.permutations(lot)):
                        self.same(found, by_rims(shape, members))

    def test_characters_of_sums_up_to_14(self):
        for total in (9, 14):
            for shape in lots(total)[::7]:
                for lot in lots(total)[::9]:
                    if len(lot) <= 6:
                        self.same(character(shape, lot), by_rims(shape, lot[::-1]))

    def test_told_characters(self):
        for total in (0, 1, 5, 10, 14):
            ones = (1,) * total
            for shape in lots(total):
                self.same(character(shape, ones), dimension(shape))
                for lot in lots(total)[::5]:
                    found = character(shape, lot)
                    sign = (-1) ** (total - len(lot))
                    self.assertEqual(character(conjugate(shape), lot), sign * found)
                    self.assertLessEqual(abs(found), dimension(shape))
            for lot in lots(total):
                self.same(character((total,) if total else (), lot), 1)

    def test_rows_columns_and_table(self):
        for total in (0, 1, 2, 5, 8):
            table = character_table(total)
            self.assertIsInstance(table, tuple)
            for row, shape in zip(table, lots(total)):
                self.same(row, tuple([character(shape, lot) for lot in lots(total)]))
                found = character_row(shape)
                self.same(list(found), list(lots(total)))
                self.same(tuple(found.values()), row)
            for at, lot in enumerate(lots(total)):
                found = character_column(lot)
                self.same(list(found), list(lots(total)))
                self.same(list(found.values()), [row[at] for row in table])
        self.same((character_table(0), character_row(()), character_column(())), (((1,),), {(): 1}, {(): 1}))

    def test_sums_over_lots_and_over_diagrams(self):
        for total in (1, 4, 7, 14):
            table, order = character_table(total), lots(total)
            step = 1 if total < 10 else 11
            for at, row in list(enumerate(table))[::step]:
                for by, other in list(enumerate(table))[::step]:
                    added = sum([Fraction(row[k] * other[k], keepers(lot)) for k, lot in enumerate(order)])
                    self.assertEqual(added, 1 if at == by else 0)
                    added = sum([line[at] * line[by] for line in table])
                    self.assertEqual(added, keepers(order[at]) if at == by else 0)

    def test_central_numbers(self):
        for total in (1, 2, 6, 9):
            swap = (2,) + (1,) * (total - 2)
            for shape in lots(total):
                if total > 1:
                    self.same(central_number(shape, swap), content_sum(shape))
                for lot in lots(total):
                    wanted = Fraction(class_size(lot) * character(shape, lot), dimension(shape))
                    self.assertEqual(wanted.denominator, 1)
                    self.same(central_number(shape, lot), wanted.numerator)
        self.same(central_number((), ()), 1)

    def test_central_numbers_and_class_products(self):
        for total in (3, 5):
            for one in lots(total):
                for other in lots(total):
                    found = class_products(one, other)
                    for shape in lots(total):
                        added = sum([many * central_number(shape, lot) for lot, many in found.items()])
                        self.assertEqual(central_number(shape, one) * central_number(shape, other), added)

    def test_class_products_by_pairs_of_moves(self):
        for total in range(1, 6):
            every = list(itertools.permutations(range(total)))
            kinds = {move: kind_of_move(move) for move in every}
            for one in lots(total):
                for other in lots(total):
                    wanted = {}
                    for lot in lots(total):
                        told = [move for move in every if kinds[move] == lot][-1]
                        many = 0
                        for first in every:
                            if kinds[first] == one:
                                # The move behind it is the one that leads from first to told.
                                second = tuple([told[first.index(place)] for place in range(total)])
                                many += kinds[second] == other
                        wanted[lot] = many
                    self.same(class_products(one, other), wanted)
        self.same(class_products((), ()), {(): 1})
        found = class_products((2,) * 7, (14,))
        self.assertEqual(sum([many * class_size(lot) for lot, many in found.items()]),
                         class_size((2,) * 7) * class_size((14,)))

    def test_rims_put(self):
        for total in range(7):
            for shape in lots(total):
                for length in range(1, 15 - total):
                    wanted = [(more, sign) for more in lots(total + length) for less, sign in rims(more, length)
                              if less == shape]
                    if length <= 6:
                        self.same(rims_put(shape, length), tuple(wanted))
                    self.assertEqual(len(rims_put(shape, length)) > 0, True)
        self.same(rims_put((), 14)[0], ((1,) * 14, -1))
        self.same(len(rims_put((), 14)), 14)
        self.refuses(TooMany, rims_put, (1,), 14, kept=(14,))
        self.refuses(TooMany, rims_put, (24,), 1, kept=(14,))
        self.refuses_in_order(rims_put, ((2, 1), InvalidLot, NO_LOTS), (2, InvalidCount, (0, 15) + NO_INTEGERS))
        self.refuses(InvalidCount, rims_put, (24,), 15, kept=(15,))

    def test_columns_by_putting_rims_on(self):
        for lot in [lot for total in range(8) for lot in lots(total)]:
            for members in (lot, lot[::-1]):
                put = by_putting(members)
                self.same({shape: put.get(shape, 0) for shape in lots(sum(lot))}, character_column(lot))

    def test_errors_of_characters(self):
        for call in (character, central_number, class_products):
            self.refuses_in_order(call, ((2, 1), InvalidLot, NO_LOTS), ((3,), InvalidLot, NO_LOTS))
            self.refuses(InvalidOperation, call, (2, 1), (2, 2))
            self.refuses(InvalidOperation, call, (15,), (1,))
            self.refuses(InvalidOperation, call, (1,), (15,))
            self.refuses(InvalidLot, call, (15,), (25,))
            for high in HIGH:
                self.refuses(TooMany, call, high, high, kept=(14,))
        for call in (character_row, character_column):
            self.refuses_in_order(call, ((2, 1), InvalidLot, NO_LOTS))
            for high in HIGH:
                self.refuses(TooMany, call, high, kept=(14,))
        self.refuses_in_order(character_table, (3, InvalidCount, (-1, 15) + NO_INTEGERS))

    def test_is_character_row(self):
        for total in (0, 1, 2, 6):
            for shape in lots(total):
                row = character_row(shape)
                self.assertIs(is_character_row(row), True)
                self.assertIs(is_character_row(dict(list(row.items())[::-1])), True)
                for lot in row:
                    self.assertIs(is_character_row({**row, lot: row[lot] + 1}), False)
                self.assertIs(is_character_row({lot: 2 * number for lot, number in row.items()}), False)
        self.assertIs(is_character_row(character_row((5, 4, 3, 2))), True)
        self.assertIs(is_character_row({lot: 0 for lot in lots(14)}), False)
        self.assertIs(is_character_row({(1, 1): True, (2,): 1}), False)
        self.assertIs(is_character_row({(1, 1): (1, 1), (2,): (1, 1)}), False)
        self.assertIs(is_character_row({(): 1}), True)
        self.assertIs(is_character_row({(): -1}), False)
        # Two of the values are rows of sums 0 and 1, told by their texts, as True is not 1.
        rows = ("{(): 1}", "{(1,): 1}")
        self.judges(is_character_row, (), [value for value in NO_VALUES + ANY_VALUES if repr(value) not in rows])

    def test_shares_and_values(self):
        for total in (0, 1, 4, 7):
            order = lots(total)
            values = {lot: (at + 1, 7) if at % 7 != 6 else -at for at, lot in enumerate(order)}
            shares = shares_of(values)
            self.same(list(shares), list(order))
            for shape in order:
                wanted = Fraction(0)
                for lot in order:
                    value = Fraction(*values[lot]) if isinstance(values[lot], tuple) else values[lot]
                    wanted += value * Fraction(character(shape, lot), keepers(lot))
                self.same(shares[shape], (wanted.numerator, wanted.denominator))
            found = values_of(shares)
            self.same(list(found), list(order))
            for lot in order:
                value = values[lot]
                self.same(found[lot], value if isinstance(value, tuple) else (value, 1))

    def test_values_of_one_share(self):
        for shape in lots(5):
            found = values_of({one: 1 if one == shape else 0 for one in lots(5)})
            self.same(found, {lot: (number, 1) for lot, number in character_row(shape).items()})
        # The order of a passed dict does not matter, and numbers can be long.
        mixed = {(3,): 10 ** 99, (1, 1, 1): (1, 10 ** 99), (2, 1): 0}
        self.same(values_of(shares_of(mixed)), {(1, 1, 1): (1, 10 ** 99), (2, 1): (0, 1), (3,): (10 ** 99, 1)})
        self.same(list(mixed), [(3,), (1, 1, 1), (2, 1)])
        high = {lot: (1, 2) for lot in lots(14)}
        self.same(shares_of(high), {lot: (1, 2) if lot == (14,) else (0, 1) for lot in lots(14)})

    def test_errors_of_shares_and_values(self):
        for call in (shares_of, values_of):
            self.refuses_in_order(call, ({(1, 1): 1, (2,): 1}, InvalidOperation, NO_VALUES))
            for number in NO_NUMBERS:
                self.refuses(InvalidOperation, call, {(): number})

    def test_numbers_of_places_that_are_left(self):
        left = {lot: lot.count(1) for lot in lots(6)}
        wanted = {shape: (int(shape in ((6,), (5, 1))), 1) for shape in lots(6)}
        self.same(shares_of(left), wanted)

    def test_what_is_not_true(self):
        swap = (2, 1, 1, 1, 1)
        self.assertEqual(central_number((4, 1, 1), swap), central_number((3, 3), swap))
        unlike = [(shape, lot) for total in range(15) for shape in lots(total)[::5] for lot in lots(total)
                  if len(set(lot)) == len(lot) and abs(character(shape, lot)) > 1]
        self.assertTrue(unlike)
