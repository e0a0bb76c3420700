"""Stage 10: connected numbers [10.1] to [10.6], and [0.13] to [0.15] as far as they speak of them."""

import itertools
import math
import types
from fractions import Fraction

from support import LONG, NO_INTEGERS, NO_WORDS, Case, first_of, pair
from test_kinds import moves_of, then
from test_lots import NO_LOTS, kind_of_move
from test_moves import NO_MOVES, NO_ROWS, every, product_by_swaps, rows, swaps

from swapsheets.errors import InvalidCount, InvalidLot, InvalidMove, InvalidOperation, InvalidRow, TooMany, UnknownName
from swapsheets.linked import numbers as module
from swapsheets.linked.numbers import genus_of, is_linked, linked_number, linked_rows, numbered_from_linked
from swapsheets.linked.numbers import numbered_number, rising_single_number, single_number, swaps_of_genus
from swapsheets.moving.moves import cycles, first_move, is_rising, is_strict, row_number
from swapsheets.rising.weights import weighted_number
from swapsheets.squares.lots import lots, renamings

EXAMPLES = """
>>> [linked_number((2,), (2,), 0), linked_number((2, 1), (2, 1), 2), numbered_number((2, 1), (2, 1), 2), linked_number((3, 1), (2, 1, 1), 3), linked_number((2, 1), (2, 1), 3)]
[(1, 2), (4, 1), (9, 2), (54, 1), (0, 1)]
>>> [genus_of((3, 1), (2, 1, 1), 5), genus_of((2,), (2,), 1), genus_of((1, 1), (1, 1), 0), swaps_of_genus((2, 2), (3, 1), 1)]
[1, None, -1, 4]
>>> [single_number((2, 2)), single_number((3,)), linked_number((3,), (1, 1, 1), 2), rising_single_number((2, 1)), linked_number((2, 1), (1, 1, 1), 3, word="rising")]
[(576, 1), (6, 1), (6, 1), (12, 1), (12, 1)]
>>> [list(linked_rows((1, 0, 2), (3,), 1)), len(list(linked_rows((0, 1, 2), (1, 1, 1), 4))), is_linked((1, 0, 2), ((0, 1),)), numbered_from_linked((2, 1), (2, 1), 2)]
[[((0, 2),), ((1, 2),)], 24, False, (9, 2)]
>>> linked_number((2, 1), (2, 2), 1)
raises InvalidOperation
"""
WORDS = ("all", "rising", "strict")
NO_ENDS = NO_LOTS + ((),)
NO_COUNTS = (-1, 61) + NO_INTEGERS


def is_of(size, row, word):
    return word == "all" or (is_rising if word == "rising" else is_strict)(size, row)


def joins(move, row):
    """Whether all places are joined, by going on from the place 0."""
    seen, waiting = set(), [0]
    while waiting:
        place = waiting.pop()
        if place not in seen:
            seen.add(place)
            waiting += [move[place], move.index(place)]
            waiting += [high if low == place else low for low, high in row if place in (low, high)]
    return len(seen) == len(move)


def counted(size, many, word):
    """The numbers of linked and of all pairs of a move and a row, by the kinds at both ends."""
    linked, whole = {}, {}
    for row in rows(size, many):
        if is_of(size, row, word):
            product = product_by_swaps(size, row)
            for move in every(size):
                ends = (kind_of_move(move), kind_of_move(then(move, product)))
                whole[ends] = whole.get(ends, 0) + 1
                if joins(move, row):
                    linked[ends] = linked.get(ends, 0) + 1
    return linked, whole


def numbered(one, other, many):
    return pair(Fraction(many, math.factorial(sum(one))) * renamings(one) * renamings(other))


def partitions(things):
    """All ways to part a list into pieces that are not empty."""
    if not things:
        return [[]]
    found = []
    for parted in partitions(things[1:]):
        found.append([[things[0]]] + parted)
        found += [parted[:at] + [[things[0]] + parted[at]] + parted[at + 1:] for at in range(len(parted))]
    return found


def shared_out(many, among):
    """All tuples of so many integers from 0 on that add up to a number."""
    return [some for some in itertools.product(range(many + 1), repeat=among) if sum(some) == many]


def by_parting(one, other, many, word):
    """The sum over all ways to part the numbered ends and the swaps into pieces [10.2]."""
    total = Fraction(0)
    ends = [(0, at) for at in range(len(one))] + [(1, at) for at in range(len(other))]
    for parted in partitions(ends):
        pieces = [(tuple([one[at] for side, at in piece if side == 0]), tuple([other[at] for side, at in piece if side]))
                  for piece in parted]
        if not all([sum(here) == sum(there) for here, there in pieces]):
            continue
        for swap_numbers in shared_out(many, len(pieces)):
            ways = 1
            if word == "all":
                ways = math.factorial(many) // math.prod([math.factorial(number) for number in swap_numbers])
            share = Fraction(ways)
            for (here, there), number in zip(pieces, swap_numbers):
                here, there = [tuple(sorted(lot, reverse=True)) for lot in (here, there)]
                share *= Fraction(*linked_number(here, there, number, word=word))
            total += share
    return pair(total)


class TestLinked(Case):
    def test_examples(self):
        self.runs(EXAMPLES, dict(vars(module)))

    def test_constants(self):
        told = (module.MAX_ENDS, module.MAX_LINKED, module.MOST_LINKED, module.MAX_TRIED)
        self.same(told, (10, 14, 60, 20000))

    def test_numbers_by_trying_all(self):
        for size in range(1, 5):
            for many in range(6 if size < 4 else 4):
                for word in WORDS:
                    linked, whole = counted(size, many, word)
                    for one in lots(size):
                        for other in lots(size):
                            wanted = numbered(one, other, linked.get((one, other), 0))
                            self.same(linked_number(one, other, many, word=word), wanted)
                            wanted = numbered(one, other, whole.get((one, other), 0))
                            self.same(numbered_number(one, other, many, word=word), wanted)

    def test_numbers_of_five_places_by_trying_all(self):
        for word, many in (("all", 3), ("rising", 4), ("strict", 4)):
            linked = {}
            for row in rows(5, many):
                if is_of(5, row, word):
                    product = product_by_swaps(5, row)
                    for one in lots(5):
                        move = first_move(one)
                        if joins(move, row):
                            ends = (one, kind_of_move(then(move, product)))
                            linked[ends] = linked.get(ends, 0) + 1
            for one in lots(5):
                for other in lots(5):
                    # Each move of the kind has as many linked rows as the first one.
                    wanted = numbered(one, other, linked.get((one, other), 0) * len(moves_of(one)))
                    self.same(linked_number(one, other, many, word=word), wanted)

    def test_all_is_the_word_that_is_not_told(self):
        for one, other in (((2, 1), (3,)), ((2, 2), (2, 1, 1)), ((4,), (1, 1, 1, 1))):
            for many in range(6):
                self.same(linked_number(one, other, many), linked_number(one, other, many, word="all"))
                self.same(numbered_number(one, other, many), numbered_number(one, other, many, word="all"))
                self.same(numbered_from_linked(one, other, many), numbered_from_linked(one, other, many, word="all"))

    def test_the_sum_of_all_partings(self):
        told = (((2, 1), (2, 1)), ((1, 1, 1), (1, 1, 1)), ((2, 2, 1), (2, 2, 1)), ((3, 1), (2, 1, 1)), ((2, 1, 1), (2, 2)),
                ((3, 2, 1), (3, 3)), ((2, 2, 2), (4, 2)))
        for one, other in told:
            for word in WORDS:
                for many in range(5):
                    self.same(numbered_number(one, other, many, word=word), by_parting(one, other, many, word))

    def test_numbered_from_linked(self):
        for size in range(1, 7):
            for one in lots(size):
                for other in lots(size):
                    if len(one + other) > 10:
                        continue
                    for word in WORDS:
                        for many in (0, 1, 4, 7):
                            whole = numbered_number(one, other, many, word=word)
                            self.same(numbered_from_linked(one, other, many, word=word), whole)
                            weight = Fraction(*weighted_number(one, other, many, word))
                            self.same(whole, pair(weight * renamings(one) * renamings(other)))

    def test_numbers_at_their_bounds(self):
        for one, other in (((5, 4, 3, 1, 1), (6, 3, 2, 2, 1)), ((14,), (14,)), ((14,), (6, 1, 1, 1, 1, 1, 1, 1, 1)),
                           ((4, 4, 3, 2, 1), (4, 4, 3, 2, 1)), ((1,) * 5, (1,) * 5)):
            for word in WORDS:
                for many in (0, 59, 60):
                    whole = numbered_number(one, other, many, word=word)
                    self.same(numbered_from_linked(one, other, many, word=word), whole)
                    linked = linked_number(one, other, many, word=word)
                    self.same(linked_number(other, one, many, word=word), linked)
                    self.assertTrue(0 <= Fraction(*linked) <= Fraction(*whole))
        # One cycle joins all places by itself.
        self.same(linked_number((14,), (14,), 60), numbered_number((14,), (14,), 60))
        self.same([linked_number((1,), (1,), many) for many in (0, 1, 60)], [(1, 1), (0, 1), (0, 1)])

    def test_both_lots_can_change_places(self):
        for size in range(1, 6):
            for one in lots(size):
                for other in lots(size):
                    for word in WORDS:
                        for many in range(6):
                            self.same(linked_number(one, other, many, word=word), linked_number(other, one, many, word=word))

    def test_genus(self):
        for size in range(1, 6):
            for one in lots(size):
                for other in lots(size):
                    for many in (0, 1, 2, 5, 60):
                        found = genus_of(one, other, many)
                        fits = [genus for genus in range(-9, 40) if many == 2 * genus - 2 + len(one) + len(other)]
                        self.same([found], fits or [None])
                        number = linked_number(one, other, many)
                        if found is None or found < 0:
                            for word in WORDS:
                                self.same(linked_number(one, other, many, word=word), (0, 1))
                        elif size > 1:
                            self.assertGreater(number[0], 0)
                    for genus in (0, 1, 20):
                        many = swaps_of_genus(one, other, genus)
                        self.same(many, 2 * genus - 2 + len(one) + len(other))
                        self.same(genus_of(one, other, many), genus)
        self.same(genus_of((1,) * 24, (1,) * 24, 0), -23)
        self.same(swaps_of_genus((1,) * 24, (1,) * 24, 20), 86)
        self.same(swaps_of_genus((24,), (24,), 0), 0)

    def test_errors_of_genus(self):
        self.refuses_in_order(genus_of, ((2, 1), InvalidLot, NO_ENDS), ((3,), InvalidLot, NO_ENDS),
                              (60, InvalidCount, NO_COUNTS))
        self.refuses_in_order(swaps_of_genus, ((2, 1), InvalidLot, NO_ENDS), ((3,), InvalidLot, NO_ENDS),
                              (20, InvalidCount, (-1, 21) + NO_INTEGERS))
        for call in (genus_of, swaps_of_genus):
            # Unlike sums are told ahead of all that is behind the lots.
            self.refuses(InvalidOperation, call, (2, 1), (2, 2), 1)
            self.refuses(InvalidOperation, call, (2, 1), (2, 2), -1)
            self.refuses(InvalidLot, call, (), (1,), 1)
            self.refuses(InvalidLot, call, (1,), (), 1)
            self.refuses(InvalidLot, call, (), (), 1)

    def test_errors_of_numbers(self):
        for function in (numbered_number, linked_number, numbered_from_linked):
            def call(one, other, many, word):
                return function(one, other, many, word=word)

            self.refuses_in_order(call, ((2, 1), InvalidLot, NO_ENDS), ((3,), InvalidLot, NO_ENDS),
                                  (2, InvalidCount, NO_COUNTS), ("rising", UnknownName, NO_WORDS))
            self.refuses(InvalidOperation, call, (2, 1), (2, 2), -1, "none")
            self.refuses(InvalidOperation, call, (15,), (14,), -1, "none")
            for lot in ((15,), (24,), (1,) * 15):
                self.refuses(TooMany, call, lot, lot, 60, "all", kept=(14,))
                self.refuses(UnknownName, call, lot, lot, 60, "none", kept=("none",))
                self.refuses(InvalidCount, call, lot, lot, 61, "none", kept=(61,))
            for one, other in (((1,) * 6, (2, 1, 1, 1, 1)), ((1,) * 10, (10,)), ((14,), (5,) + (1,) * 9), ((1,) * 14, (1,) * 14)):
                self.refuses(TooMany, call, one, other, 1, "strict", kept=(10,))
                self.refuses(UnknownName, call, one, other, 1, "none", kept=("none",))
            call((14,), (6,) + (1,) * 8, 60, "all")
            call((2, 1, 1, 1, 1), (2, 1, 1, 1, 1), 60, "strict")
            with self.assertRaises(TypeError):
                function((2, 1), (3,), 1, "all")

    def test_formulas_for_all_ones(self):
        for size in range(1, 10):
            for lot in lots(size):
                if size + len(lot) > 10:
                    continue
                many, ones = size + len(lot) - 2, (1,) * size
                self.same(genus_of(lot, ones, many), 0)
                self.same(single_number(lot), linked_number(lot, ones, many))
                self.same(rising_single_number(lot), linked_number(lot, ones, many, word="rising"))

    def test_formulas_for_all_ones_as_they_are_written(self):
        for total in (1, 2, 3, 7, 24):
            for lot in lots(total)[::7] + lots(total)[-3:]:
                length = len(lot)
                here = Fraction(math.factorial(total + length - 2) * math.factorial(total)) * Fraction(total) ** (length - 3)
                there = Fraction(math.factorial(total))
                for member in lot:
                    here *= Fraction(member ** member, math.factorial(member))
                    there *= math.comb(2 * member, member)
                if length == 1:
                    there /= 2 * total * (2 * total - 1)
                elif length == 2:
                    there /= 2 * total
                else:
                    there *= math.prod(range(2 * total + 1, 2 * total + length - 2))
                self.same(single_number(lot), pair(here))
                self.same(rising_single_number(lot), pair(there))
        for call in (single_number, rising_single_number):
            self.refuses_in_order(call, ((2, 1), InvalidLot, NO_ENDS))

    def test_linked_rows_by_trying_all(self):
        for size in range(1, 5):
            for many in range(5 if size < 4 else 4):
                tried = list(rows(size, many))
                for move in every(size)[::size]:
                    found = {}
                    for row in tried:
                        if joins(move, row):
                            kind = kind_of_move(then(move, product_by_swaps(size, row)))
                            found.setdefault(kind, []).append(row)
                    for lot in lots(size):
                        self.same(list(linked_rows(move, lot, many)), found.get(lot, []))
                        self.assertEqual(found.get(lot, []), sorted(found.get(lot, [])))

    def test_linked_rows_and_linked_numbers(self):
        for one, other, many in (((3, 1), (2, 1, 1), 3), ((2, 2), (2, 2), 2), ((2, 1, 1), (4,), 4), ((5,), (3, 2), 3)):
            for move in moves_of(one)[::5]:
                found = len(list(linked_rows(move, other, many))) * len(moves_of(one))
                self.same(linked_number(one, other, many), numbered(one, other, found))

    def test_linked_rows_at_their_bounds(self):
        self.assertIsInstance(linked_rows((0,), (1,), 0), types.GeneratorType)
        self.same(list(linked_rows((0,), (1,), 0)), [()])
        self.same(list(linked_rows((0,), (1,), 60)), [])
        self.same(list(linked_rows((0, 1), (1, 1), 60)), [((0, 1),) * 60])
        self.same(list(linked_rows((0, 1), (2,), 60)), [])
        self.same(list(linked_rows((0, 1), (1, 1), 0)), [])
        around = tuple(range(1, 24)) + (0,)
        self.same(list(linked_rows(around, (24,), 0)), [()])
        self.same(list(linked_rows(around, (12, 12), 1)), [((at, at + 12),) for at in range(12)])
        # Three places have 19,683 rows of nine swaps, and more of ten.
        moves = [move for move in every(3) if kind_of_move(move) == (2, 1)]
        found = sum([len(list(linked_rows(move, (3,), 9))) for move in moves])
        self.same(numbered((2, 1), (3,), found), linked_number((2, 1), (3,), 9))
        for size in range(1, 25):
            for many in (0, 1, 2, 3, 4, 5, 9, 10, 60):
                call = first_of(lambda *rest: itertools.chain(linked_rows(*rest), [None]))
                if row_number(size, many, "all") > 20000:
                    self.refuses(TooMany, call, first_move((size,)), (size,), many, kept=(20000,))
                else:
                    call(first_move((size,)), (size,), many)

    def test_errors_of_linked_rows(self):
        lots_of_others = ((), (2,), (2, 2), (3, 1), (1,) * 4, (24,))
        self.refuses_in_order(first_of(linked_rows), ((1, 0, 2), InvalidMove, NO_MOVES), ((3,), InvalidLot, NO_LOTS + lots_of_others),
                              (1, InvalidCount, NO_COUNTS))
        late = linked_rows((0, 0), (2,), 1)
        self.refuses(InvalidMove, next, late)
        self.refuses(InvalidLot, first_of(linked_rows), tuple(range(24)), (23,), 60)
        self.refuses(InvalidCount, first_of(linked_rows), tuple(range(24)), (24,), 61, kept=(61,))

    def test_is_linked_by_trying_all(self):
        for size in range(1, 5):
            for many in range(4):
                for row in itertools.islice(rows(size, many), 0, None, 1 if size < 4 else 5):
                    for move in every(size):
                        self.assertIs(is_linked(move, row), joins(move, row))
                        labels = {place: at for at, cycle in enumerate(cycles(move)) for place in cycle}
                        if not row:
                            self.assertIs(is_linked(move, row), len(set(labels.values())) == 1)
        self.assertIs(is_linked(tuple(range(24)), tuple([(at, at + 1) for at in range(23)])), True)
        self.assertIs(is_linked(tuple(range(24)), tuple([(at, at + 1) for at in range(22)])), False)
        self.assertIs(is_linked((0, 1), ((0, 1),) * 200), True)
        self.refuses_in_order(is_linked, ((0, 1, 2, 3), InvalidMove, NO_MOVES), (tuple(swaps(4)), InvalidRow, NO_ROWS))
        self.refuses(InvalidRow, is_linked, (0, 1), ((0, 2),))
        self.refuses(InvalidRow, is_linked, (0,), ((0, 1),))

    def test_what_is_not_true(self):
        self.same(linked_number((2,), (2,), 0), (1, 2))
        self.assertIs(is_linked((1, 0, 2), ((0, 1),)), False)
        self.assertIs(is_linked((0, 2, 1), ((0, 1),)), True)
        self.refuses(InvalidCount, genus_of, (1,), (1,), LONG, kept=(LONG,))
