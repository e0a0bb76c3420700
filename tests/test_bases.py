"""Stage 16: bases [16.6] to [16.8], and [16.3], [16.5] together with their numbers."""

import itertools
import math
from fractions import Fraction

from support import NO_INTEGERS, Case, pair
from test_drawings import closing_of
from test_kinds import taken_back, then
from test_least import joined
from test_lots import NO_LOTS, kind_of_move
from test_moves import every

from swapsheets.charts.characters import character
from swapsheets.drawn import bases as module
from swapsheets.drawn.bases import base_number, joined_base_number
from swapsheets.drawn.drawings import Drawing, own_renamings
from swapsheets.errors import InvalidCount, InvalidLot, TooMany
from swapsheets.kindred.kinds import rows_of_kinds
from swapsheets.leastrows.least import cactus_number
from swapsheets.linked.numbers import linked_number
from swapsheets.squares.lots import class_size, dimension, lots, renamings
from swapsheets.torus.covers import cover_number, linked_cover_number
from swapsheets.walking.walks import rows_number

EXAMPLES = """
>>> [base_number(0, 5), base_number(1, 7), base_number(2, 3), joined_base_number(1, 4), joined_base_number(0, 6, (2, 2, 2), (3, 3), (6,))]
[(1, 120), (15, 1), (81, 1), (7, 4), (1, 6)]
"""


def turned(one, other):
    """A turn: one move, then the other one, then both taken back."""
    return then(then(one, other), then(taken_back(one), taken_back(other)))


def by_trying(genus, total, kinds):
    """All rows of turns and of moves of these kinds, and the joined ones, divided by d!."""
    whole = linked = 0
    told = [[move for move in every(total) if kind_of_move(move) == lot] for lot in kinds]
    for handles in itertools.product(every(total), repeat=2 * genus):
        begun = tuple(range(total))
        for at in range(genus):
            begun = then(begun, turned(handles[2 * at], handles[2 * at + 1]))
        for row in itertools.product(*told):
            made = begun
            for move in row:
                made = then(made, move)
            if made == tuple(range(total)):
                whole += 1
                linked += joined((made,) + handles + row)
    return pair(Fraction(whole, math.factorial(total))), pair(Fraction(linked, math.factorial(total)))


def by_characters(genus, total, kinds):
    """The sum of [16.6]."""
    found = Fraction(0)
    for shape in lots(total):
        size = dimension(shape)
        part = Fraction(math.factorial(total), size) ** (2 * genus - 2)
        for lot in kinds:
            part *= Fraction(class_size(lot) * character(shape, lot), size)
        found += part
    return pair(found)


def swap_kind(total):
    return (2,) + (1,) * (total - 2)


class TestBases(Case):
    def test_examples(self):
        self.runs(EXAMPLES, dict(vars(module)))

    def test_constants(self):
        self.same((module.MAX_TOTAL, module.MAX_JOINED, module.MAX_KINDS, module.MAX_GENUS), (14, 8, 6, 10))

    def test_numbers_by_trying_all(self):
        told = [(0, total, many) for total in (1, 2, 3) for many in range(5)] + [(0, 4, many) for many in range(4)]
        told += [(1, total, many) for total in (1, 2, 3) for many in range(3)] + [(1, 4, 0), (1, 4, 1), (2, 2, 2), (2, 3, 1), (3, 2, 1)]
        for genus, total, many in told:
            for kinds in list(itertools.product(lots(total), repeat=many))[::1 if total < 4 else 3]:
                whole, linked = by_trying(genus, total, kinds)
                self.same(base_number(genus, total, *kinds), whole)
                self.same(joined_base_number(genus, total, *kinds), linked)

    def test_numbers_by_characters(self):
        for genus in (0, 1, 2, 9, 10):
            for total in (1, 2, 5, 8):
                for kinds in ((), ((total,),), ((1,) * total,) * 6, lots(total)[:3], lots(total)[-6:], (lots(total)[len(lots(total)) // 2],) * 5):
                    self.same(base_number(genus, total, *kinds), by_characters(genus, total, kinds))
        for genus, total, kinds in ((0, 14, ((14,), (14,))), (10, 14, ((5, 4, 2, 1, 1, 1),) * 6), (1, 14, ()), (2, 13, ((13,),))):
            self.same(base_number(genus, total, *kinds), by_characters(genus, total, kinds))

    def test_numbers_without_kinds(self):
        for total in range(1, 15):
            self.same(base_number(0, total), pair(Fraction(1, math.factorial(total))))
            self.same(base_number(1, total), (len(lots(total)), 1))
        for total in range(1, 9):
            self.same(joined_base_number(0, total), (1, 1) if total == 1 else (0, 1))
            divisors = sum([divisor for divisor in range(1, total + 1) if total % divisor == 0])
            self.same(joined_base_number(1, total), pair(Fraction(divisors, total)))

    def test_joined_numbers_tell_the_others(self):
        # The exponential, for turns alone: all ways to part the places into joined lots.
        for genus in (0, 1, 2, 10):
            whole = [Fraction(1)]
            for total in range(1, 9):
                parts = [less * Fraction(*joined_base_number(genus, less)) * whole[total - less] for less in range(1, total + 1)]
                whole.append(sum(parts) / total)
                self.same(base_number(genus, total), pair(whole[total]))

    def test_numbers_by_other_sections(self):
        for total in range(2, 7):
            for one in lots(total)[::2]:
                for other in lots(total)[::3]:
                    for many in (0, 1, 2, 3, 4):
                        kinds = (one,) + (swap_kind(total),) * many + (other,)
                        self.same(base_number(0, total, *kinds), rows_number(one, other, many))
                        if len(one + other) <= 10:
                            number = Fraction(*joined_base_number(0, total, *kinds)) * renamings(one) * renamings(other)
                            self.same(pair(number), linked_number(one, other, many))
        for total in range(2, 9):
            for many in range(7):
                kinds = (swap_kind(total),) * many
                self.same(base_number(1, total, *kinds), (cover_number(total, many), 1))
                self.same(joined_base_number(1, total, *kinds), linked_cover_number(total, many))
        for kinds in (((2, 1, 1),) * 3, ((2, 2), (3, 1)), ((2, 2, 1), (3, 1, 1)), ((4, 1), (2, 2, 1), (2, 1, 1, 1))):
            total = sum(kinds[0])
            wanted = pair(Fraction(rows_of_kinds(kinds, (total,)), total))
            self.same(joined_base_number(0, total, *kinds, (total,)), wanted)
            self.same(base_number(0, total, *kinds, (total,)), wanted)
        self.same(joined_base_number(0, 5, (2, 2, 1), (3, 1, 1), (5,)), pair(Fraction(cactus_number(((2, 2, 1), (3, 1, 1))), 5)))

    def test_rooted_drawings(self):
        # [16.7]: each joined drawing with a root once, by its new names; and once for each that leaves it as it is.
        for total, many in ((1, 2), (2, 2), (3, 2), (4, 2), (5, 2), (2, 4), (3, 3), (4, 3), (3, 4), (2, 6)):
            rooted, shares = {}, {}
            for moves in itertools.product(every(total), repeat=many - 1):
                kinds = tuple([kind_of_move(move) for move in moves + (closing_of(moves),)])
                if joined(moves):
                    drawing = Drawing(moves)
                    rooted.setdefault(kinds, {})[drawing.named_from(0).moves] = True
                    first = min([drawing.named_from(root).moves for root in range(total)]) if total < 5 else None
                    shares.setdefault(kinds, {})[first] = Fraction(1, own_renamings(drawing))
            for kinds in list(itertools.product(lots(total), repeat=many))[::1 if total < 5 else 4]:
                wanted = Fraction(len(rooted.get(kinds, {})), total)
                self.same(joined_base_number(0, total, *kinds), pair(wanted))
                if total < 5:
                    self.assertEqual(sum(shares.get(kinds, {}).values()), wanted)

    def test_the_sequence_of_kinds_does_not_matter(self):
        for kinds in (((3, 2), (4, 1), (2, 2, 1)), ((2, 1), (3,), (3,), (1, 1, 1), (2, 1))):
            total = sum(kinds[0])
            for call in (base_number, joined_base_number):
                for genus in (0, 3):
                    found = {call(genus, total, *order) for order in itertools.permutations(kinds)}
                    self.assertEqual(len(found), 1)

    def test_many_kinds_that_part(self):
        for lot in ((3, 2, 1, 1, 1), (2, 2, 2, 1, 1), (4, 2, 1, 1), (1,) * 8, (8,)):
            top, bottom = joined_base_number(0, 8, *(lot,) * 6)
            whole = base_number(0, 8, *(lot,) * 6)
            self.assertLessEqual(Fraction(top, bottom), Fraction(*whole))
            self.assertGreaterEqual(top, 0)
        self.same(joined_base_number(0, 8, *((1,) * 8,) * 6), (0, 1))
        self.same(joined_base_number(0, 8, *((8,),) * 6), base_number(0, 8, *((8,),) * 6))

    def test_errors(self):
        for call, most in ((base_number, 14), (joined_base_number, 8)):
            good = ((2, 1, 1), InvalidLot, NO_LOTS + ((), (3,), (3, 1, 1), (2, 2, 1)))
            self.refuses_in_order(call, (10, InvalidCount, (-1, 11) + NO_INTEGERS), (4, InvalidCount, (-1, 0, 15) + NO_INTEGERS), good, good, good)
            call(0, most)
            call(0, most, *((most,),) * 6)
            self.refuses(TooMany, call, 0, 4, *((4,),) * 7, kept=(6,))
            self.refuses(TooMany, call, 0, 4, *((4,),) * 20, kept=(6,))
            self.refuses(InvalidLot, call, 0, 4, *((4,),) * 19, (3,))
            self.refuses(InvalidCount, call, 11, 15, *((4,),) * 7, kept=(11,))
            self.refuses(InvalidCount, call, 10, 15, *((4,),) * 7, kept=(15,))
            self.refuses(TooMany, call, 0, 14, *((14,),) * 7, kept=(6,))
        for total in (9, 14):
            base_number(1, total)
            self.refuses(TooMany, joined_base_number, 1, total, kept=(8,))
            self.refuses(TooMany, joined_base_number, 1, total, *((total,),) * 6, kept=(8,))
            self.refuses(TooMany, joined_base_number, 1, total, *((total,),) * 7, kept=(6,))
            self.refuses(InvalidLot, joined_base_number, 1, total, (8,))
        self.refuses(InvalidLot, base_number, 0, 4, True)
        self.refuses(InvalidLot, base_number, 0, 4, [4])
        self.refuses(InvalidLot, base_number, 0, 4, ((4,),))
