"""Stage 8: rows of any number of swaps [8.1] to [8.6], and [0.13], [0.14] as far as they speak of walks."""

from fractions import Fraction

from support import ANY_VALUES, LONG, NO_INTEGERS, Case, pair
from test_kinds import then
from test_linked import partitions
from test_lots import NO_LOTS, kind_of_move
from test_moves import every, product_by_swaps, rows, swaps

from swapsheets.base.formulas import Formula
from swapsheets.charts.characters import character
from swapsheets.errors import InvalidCount, InvalidLot, InvalidOperation, TooMany
from swapsheets.moving.moves import first_move
from swapsheets.rising.weights import weight_table, weighted_number
from swapsheets.squares.lots import content_sum, keepers, lots
from swapsheets.strings.cutting import number_by_cutting
from swapsheets.walking import walks as module
from swapsheets.walking.walks import any_blocks, are_blocks, least_many, least_recursion, numbers_to, power_parts
from swapsheets.walking.walks import powers_at, rows_from, rows_number, walk_table, walked

EXAMPLES = """
>>> [walk_table(3), walked((2, 2), 2), rows_from((3,), (1, 1, 1), 2), rows_number((1, 1, 1), (3,), 2), rows_from((4, 2), (3, 3), 2)]
[{(1, 1, 1): {(2, 1): 3}, (2, 1): {(1, 1, 1): 1, (3,): 2}, (3,): {(2, 1): 3}}, {(1, 1, 1, 1): 2, (2, 2): 10, (3, 1): 24}, 3, (1, 1), 32]
>>> [power_parts((1, 1, 1), (1, 1, 1)), power_parts((2, 2), (4,)), powers_at({-1: (1, 2), 1: (1, 2)}, 3), powers_at({0: (2, 3)}, 0)]
[{-3: (1, 36), 0: (1, 9), 3: (1, 36)}, {-6: (-1, 32), -2: (-1, 32), 2: (1, 32), 6: (1, 32)}, (0, 1), (2, 3)]
>>> [least_recursion(3), least_recursion(4), numbers_to((2,), (2,), 4), len(str(numbers_to((3,), (3,), 2000)[-1]))]
[(0, -9, 0, 1), (0, 144, 0, -40, 0, 1), (1, 0, 1, 0, 1), 955]
>>> [least_many((4, 2), (3, 3)), least_many((2, 2), (2, 1, 1)), are_blocks((2, 2), (2, 1, 1), (((2,), (1, 1)), ((2,), (2,)))), are_blocks((2, 2), (2, 1, 1), (((2, 2), (2, 1, 1)),))]
[2, 1, True, True]
>>> walked((9,), 1)
raises TooMany(8)
"""
HIGH = ((15,), (1,) * 15, (24,), (1,) * 24)
NO_TOTALS = (0, 9, -1) + NO_INTEGERS
NO_MANY = (-1, 201) + NO_INTEGERS
# No dicts from integers to at most 200 fractions other than 0.
NO_PARTS = (
    True, False, None, 0, 1, "", "a", (), (1,), ((1, (1, 1)),), [], [1], LONG, Formula.plain(1, 1), {True: (1, 1)},
    {False: (1, 1)}, {None: (1, 1)}, {"1": (1, 1)}, {(1,): (1, 1)}, {LONG: (1, 1)}, {-LONG: (1, 1)}, {1: 1}, {1: 0},
    {1: True}, {1: None}, {1: "1"}, {1: (0, 1)}, {1: (2, 2)}, {1: (1, 0)}, {1: (1, -1)}, {1: (1,)}, {1: (1, 1, 1)},
    {1: [1, 1]}, {1: (True, 1)}, {1: (1, True)}, {1: (1, 1), 2: (0, 1)}, {1: (1, 1), None: (1, 1)}, {1: {}},
    {spot: (1, 1) for spot in range(201)}, {(): (1, 1)}, {1: Formula.plain(1, 1)},
)


def ways_tried(lot):
    """How many swaps lead the first move of a kind to moves of each kind."""
    size, found = sum(lot), {}
    for swap in swaps(size):
        kind = kind_of_move(then(first_move(lot), product_by_swaps(size, (swap,))))
        found[kind] = found.get(kind, 0) + 1
    return {kind: found[kind] for kind in sorted(found)}


def all_blocks(one, other):
    """All ways to part the members of both lots into blocks."""
    ends = [(0, at) for at in range(len(one))] + [(1, at) for at in range(len(other))]
    for parted in partitions(ends):
        pieces = [(tuple([one[at] for side, at in piece if side == 0]), tuple([other[at] for side, at in piece if side]))
                  for piece in parted]
        if all([sum(here) == sum(there) for here, there in pieces]):
            yield tuple(pieces)


class TestWalks(Case):
    def test_examples(self):
        self.runs(EXAMPLES, dict(vars(module)))

    def test_constants(self):
        told = (module.MAX_WALKED, module.MAX_SUM, module.MAX_MANY, module.MAX_FAR)
        self.same(told, (8, 14, 200, 2000))

    def test_walk_tables_by_trying_all_swaps(self):
        for total in range(1, 9):
            table = walk_table(total)
            self.same(table, {lot: ways_tried(lot) for lot in lots(total)})
            for row in table.values():
                self.assertEqual(sum(row.values()), total * (total - 1) // 2)
        self.same(walk_table(1), {(1,): {}})
        # It is the same for each move of a kind.
        for move in every(5):
            found = {}
            for swap in swaps(5):
                kind = kind_of_move(then(move, product_by_swaps(5, (swap,))))
                found[kind] = found.get(kind, 0) + 1
            self.assertEqual(found, walk_table(5)[kind_of_move(move)])
        self.refuses_in_order(walk_table, (8, InvalidCount, NO_TOTALS))

    def test_numbers_of_rows_by_trying_all(self):
        for size in range(1, 5):
            for many in range(6 if size < 4 else 5):
                products = [product_by_swaps(size, row) for row in rows(size, many)]
                for one in lots(size):
                    ends = [kind_of_move(then(first_move(one), product)) for product in products]
                    for other in lots(size):
                        number = ends.count(other)
                        self.same(rows_from(one, other, many), number)
                        self.same(rows_number(one, other, many), pair(Fraction(number, keepers(one))))

    def test_numbers_of_rows_by_their_definition(self):
        for one in lots(3):
            for other in lots(3):
                for many in range(5):
                    found = 0
                    for row in rows(3, many):
                        product = product_by_swaps(3, row)
                        found += len([move for move in every(3)
                                      if kind_of_move(move) == one and kind_of_move(then(move, product)) == other])
                    self.same(rows_number(one, other, many), pair(Fraction(found, 6)))

    def test_numbers_of_rows_by_walks(self):
        for total in (5, 8):
            table = walk_table(total)
            for one in lots(total)[::3]:
                found = {one: 1}
                for many in range(8):
                    self.same(walked(one, many), {lot: found[lot] for lot in sorted(found)})
                    for other in lots(total):
                        self.same(rows_from(one, other, many), found.get(other, 0))
                    behind = {}
                    for lot, number in found.items():
                        for target, ways in table[lot].items():
                            behind[target] = behind.get(target, 0) + number * ways
                    found = behind

    def test_numbers_of_rows_by_other_roads(self):
        for total, many in ((4, 7), (6, 5), (7, 12)):
            table = weight_table(total, "all", many)
            for one in lots(total):
                for other in lots(total):
                    number = rows_number(one, other, many)
                    self.same(rows_number(other, one, many), number)
                    self.same(weighted_number(one, other, many, "all"), number)
                    self.same(number_by_cutting(one, other, many), number)
                    self.same(powers_at(power_parts(one, other), many), number)
                    self.same(rows_from(one, other, many), table[one][other])
                    if (many + len(one) + len(other)) % 2:
                        self.same(number, (0, 1))

    def test_numbers_of_rows_at_their_bounds(self):
        self.same([rows_number((), (), many) for many in (0, 1, 200)], [(1, 1), (0, 1), (0, 1)])
        self.same([rows_from((), (), many) for many in (0, 1, 200)], [1, 0, 0])
        self.same([rows_from((2,), (1, 1), many) for many in (199, 200)], [1, 0])
        for one, other in (((14,), (7, 7)), ((1,) * 14, (2,) * 7), ((5, 4, 3, 2), (4, 4, 3, 3))):
            for many in (0, 13, 14, 199, 200):
                self.same(number_by_cutting(one, other, many), rows_number(one, other, many))
        self.assertEqual(sum([rows_from((14,), lot, 200) for lot in lots(14)]), 91 ** 200)

    def test_errors_of_numbers_of_rows(self):
        for call in (rows_number, rows_from):
            self.refuses_in_order(call, ((2, 1), InvalidLot, NO_LOTS), ((3,), InvalidLot, NO_LOTS), (200, InvalidCount, NO_MANY))
            self.refuses(InvalidOperation, call, (2, 1), (2, 2), -1)
            self.refuses(InvalidOperation, call, (15,), (14,), -1)
            for lot in HIGH:
                self.refuses(TooMany, call, lot, lot, 200, kept=(14,))
                self.refuses(InvalidCount, call, lot, lot, 201, kept=(201,))

    def test_walked_at_its_bounds(self):
        self.same([walked((), many) for many in (0, 1, 200)], [{(): 1}, {}, {}])
        self.same([walked((1,), many) for many in (0, 1, 200)], [{(1,): 1}, {}, {}])
        for one in ((8,), (1,) * 8, (3, 2, 2, 1)):
            for many in (0, 199, 200):
                found = walked(one, many)
                self.same(list(found), sorted(found))
                self.assertEqual(sum(found.values()), 28 ** many)
                self.assertEqual({lot: rows_from(one, lot, many) for lot in lots(8) if rows_from(one, lot, many)}, found)

    def test_errors_of_walked(self):
        self.refuses_in_order(walked, ((8,), InvalidLot, NO_LOTS), (200, InvalidCount, NO_MANY))
        for lot in HIGH + ((9,), (1,) * 9):
            self.refuses(TooMany, walked, lot, 1, kept=(8,))
            self.refuses(InvalidCount, walked, lot, 201, kept=(201,))

    def test_power_parts_by_their_formula(self):
        for total in range(7):
            for one in lots(total):
                for other in lots(total):
                    found = {}
                    for shape in lots(total):
                        product = character(shape, one) * character(shape, other)
                        found[content_sum(shape)] = found.get(content_sum(shape), 0) + product
                    wanted = {spot: pair(Fraction(found[spot], keepers(one) * keepers(other))) for spot in sorted(found) if found[spot]}
                    self.same(power_parts(one, other), wanted)
                    sign = (-1) ** (len(one) + len(other))
                    for spot, (top, bottom) in wanted.items():
                        self.assertEqual(wanted.get(-spot), (sign * top, bottom))

    def test_power_parts_tell_all_numbers(self):
        for one, other in (((14,), (5, 4, 3, 2)), ((1,) * 14, (1,) * 14), ((4, 4, 3, 3), (3, 3, 2, 2, 2, 1, 1)), ((), ())):
            parts = power_parts(one, other)
            self.same(list(parts), sorted(parts))
            for many in (0, 1, 2, 13, 200):
                self.same(powers_at(parts, many), rows_number(one, other, many))
        self.same(power_parts((), ()), {0: (1, 1)})

    def test_errors_of_power_parts(self):
        self.refuses_in_order(power_parts, ((2, 1), InvalidLot, NO_LOTS), ((3,), InvalidLot, NO_LOTS))
        self.refuses(InvalidOperation, power_parts, (2, 1), (2, 2))
        for lot in HIGH:
            self.refuses(TooMany, power_parts, lot, lot, kept=(14,))

    def test_powers_at(self):
        parts = {-3: (1, 2), 0: (5, 7), 2: (-4, 3), 10: (1, 9)}
        kept = dict(parts)
        for many in (0, 1, 2, 5, 200):
            wanted = sum([Fraction(*part) * spot ** many for spot, part in parts.items()])
            self.same(powers_at(parts, many), pair(wanted))
        self.same(parts, kept)
        self.same(powers_at({}, 0), (0, 1))
        self.same([powers_at({0: (2, 3)}, many) for many in (0, 1, 200)], [(2, 3), (0, 1), (0, 1)])
        self.same(powers_at({-1: (1, 3)}, 199), (-1, 3))
        full = {spot: (1, 1) for spot in range(-100, 100)}
        self.same(powers_at(full, 1), (-100, 1))
        long = Fraction(LONG, 10 ** 99 + 1)
        self.assertEqual(powers_at({LONG - 1: pair(long)}, 200), pair(long * (LONG - 1) ** 200))
        self.refuses_in_order(powers_at, (full, InvalidOperation, NO_PARTS), (200, InvalidCount, NO_MANY))

    def test_least_recursions(self):
        for total in range(1, 9):
            spots = sorted({content_sum(shape) for shape in lots(total)})
            found = least_recursion(total)
            self.same(len(found), len(spots) + 1)
            self.same(found[-1], 1)
            for spot in spots:
                self.assertEqual(sum([number * spot ** at for at, number in enumerate(found)]), 0)
            for one in lots(total)[::2]:
                numbers = numbers_to(one, lots(total)[0], len(found) + 12)
                for start in range(12):
                    self.assertEqual(sum([number * numbers[start + at] for at, number in enumerate(found)]), 0)
        self.same([least_recursion(1), least_recursion(2)], [(0, 1), (-1, 0, 1)])
        # No shorter one fits: all sums of contents belong to the numbers from the idle move to itself.
        for total in range(1, 9):
            self.assertEqual(len(power_parts((1,) * total, (1,) * total)), len(least_recursion(total)) - 1)
        self.refuses_in_order(least_recursion, (8, InvalidCount, NO_TOTALS))

    def test_numbers_to(self):
        for total in range(9):
            for one in lots(total)[::4]:
                for other in lots(total)[::5]:
                    self.same(numbers_to(one, other, 12), tuple([rows_from(one, other, many) for many in range(13)]))
        found = numbers_to((4, 4), (8,), 2000)
        self.same(len(found), 2001)
        self.same(found[:201:50], tuple([rows_from((4, 4), (8,), many) for many in (0, 50, 100, 150, 200)]))
        numbers = least_recursion(8)
        for start in (0, 1, 500, 2001 - len(numbers)):
            self.assertEqual(sum([number * found[start + at] for at, number in enumerate(numbers)]), 0)
        self.same([numbers_to((), (), 3), numbers_to((1,), (1,), 0)], [(1, 0, 0, 0), (1,)])

    def test_errors_of_numbers_to(self):
        counts = (-1, 2001) + NO_INTEGERS
        self.refuses_in_order(numbers_to, ((2, 1), InvalidLot, NO_LOTS), ((3,), InvalidLot, NO_LOTS), (2000, InvalidCount, counts))
        self.refuses(InvalidOperation, numbers_to, (2, 1), (2, 2), -1)
        for lot in HIGH + ((9,), (1,) * 9):
            self.refuses(TooMany, numbers_to, lot, lot, 2000, kept=(8,))
            self.refuses(InvalidCount, numbers_to, lot, lot, 2001, kept=(2001,))

    def test_least_numbers(self):
        for total in range(1, 8):
            for one in lots(total):
                for other in lots(total):
                    least = least_many(one, other)
                    numbers = numbers_to(one, other, 14)
                    above = [many for many, number in enumerate(numbers) if number > 0]
                    self.assertEqual(least, above[0])
                    if total > 1:
                        self.assertEqual(above, list(range(least, 15, 2)))
        self.same([least_many((), ()), least_many((1,), (1,)), least_many((14,), (1,) * 14)], [0, 0, 13])

    def test_blocks_by_all_partings(self):
        for one, other in (((2, 2), (2, 1, 1)), ((4, 2), (3, 3)), ((3, 2, 1), (3, 2, 1)), ((2, 2, 2), (3, 3)), ((4, 3, 1), (4, 4)),
                           ((5, 2, 1), (4, 3, 1)), ((3, 3, 1, 1), (4, 2, 2)), ((1, 1, 1), (1, 1, 1))):
            tried = list(all_blocks(one, other))
            most = max([len(blocks) for blocks in tried])
            found = any_blocks(one, other)
            self.assertEqual(len(found), most)
            self.assertIs(are_blocks(one, other, found), True)
            self.judges(lambda value: are_blocks(one, other, value), tried + [blocks[::-1] for blocks in tried], ())
            self.judges(lambda value: are_blocks(one, other, value), (),
                        [blocks[1:] for blocks in tried] + [blocks + blocks[:1] for blocks in tried])

    def test_blocks_of_great_sums(self):
        seen = 0
        for one in lots(14)[::9]:
            for other in lots(14)[::7]:
                found = any_blocks(one, other)
                self.assertIs(are_blocks(one, other, found), True)
                least = len(one) + len(other) - 2 * len(found)
                self.same(least_many(one, other), least)
                self.assertGreater(rows_number(one, other, least)[0], 0)
                if least >= 2:
                    self.same(rows_number(one, other, least - 2), (0, 1))
                seen += 1
        self.assertGreater(seen, 200)
        self.same(any_blocks((), ()), ())
        self.same(len(any_blocks((1,) * 14, (1,) * 14)), 14)

    def test_are_blocks_of_wrong_values(self):
        right = (((2,), (1, 1)), ((2,), (2,)))
        wrong = (right[:1], right + right[:1], list(right), (right[0], list(right[1])), (((2,), (2,)), ((2,), (2,))),
                 (((2, 2), (2, 1, 1)), ((), ())), (((2,), (1, 1)), ((2,), (2,), ())), (((2,), (1, 1)), ((2,), [2])),
                 (((2,), (1, True)), ((2,), (2,))), (((2,), (2, 1)), ((2,), (1,))), ((2, 2), (2, 1, 1)), (right,), (), ((), ()),
                 (((2, 2), (1, 1, 2)),), (((2, 2), (2, 1, 1)), ((2, 2), (2, 1, 1))), (((2, 1, 1), (2, 2)),))
        self.judges(lambda value: are_blocks((2, 2), (2, 1, 1), value), [right, right[::-1], (((2, 2), (2, 1, 1)),)], wrong)
        self.judges(lambda value: are_blocks((2, 2), (2, 1, 1), value), (), ANY_VALUES)
        self.judges(lambda value: are_blocks((), (), value), [()], [((), ()), (((), ()),), None, [], 0, False, ((),)])
        self.judges(lambda value: are_blocks((1,), (1,), value), [(((1,), (1,)),)], [(), (((True,), (1,)),), (((1,), (True,)),)])

    def test_errors_of_blocks(self):
        for call in (least_many, any_blocks, lambda one, other: are_blocks(one, other, None)):
            self.refuses_in_order(call, ((2, 1), InvalidLot, NO_LOTS), ((3,), InvalidLot, NO_LOTS))
            self.refuses(InvalidOperation, call, (2, 1), (2, 2))
            self.refuses(InvalidOperation, call, (15,), (16,))
            for lot in HIGH:
                self.refuses(TooMany, call, lot, lot, kept=(14,))

    def test_what_is_not_true(self):
        self.assertNotEqual(rows_from((3,), (1, 1, 1), 2), rows_from((1, 1, 1), (3,), 2))
        numbers = [rows_from((2, 1), (3,), many) for many in (1, 2, 3)]
        self.assertGreater(numbers[0], numbers[1])
        self.assertTrue(any([bottom > 1 for _, bottom in [rows_number((2, 1), (2, 1), 2)]]))
