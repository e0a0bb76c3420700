"""Stage 14: rooms and walls [14.1] to [14.6], and [0.17] as far as it speaks of them."""

import itertools
import math
import random
from fractions import Fraction

from support import ANY_VALUES, LONG, NO_INTEGERS, NO_TUPLES, Case, pair

from swapsheets.base.formulas import Formula
from swapsheets.errors import InvalidCount, InvalidEnds, InvalidOperation
from swapsheets.linked.numbers import linked_number, numbered_from_linked, numbered_number
from swapsheets.oneside.formulas import one_side_in_ends, one_side_number
from swapsheets.rooming import rooms as module
from swapsheets.rooming.rooms import are_one_room, ends_number, is_ends, is_free, piece, pieces_beside, room_of
from swapsheets.rooming.rooms import wall_jump, walls_for

EXAMPLES = """
>>> [walls_for(3), walls_for(4), is_free((3, 1, -2, -2)), is_free((2, 1, -2, -1)), is_ends((3, -3), 0), is_ends((3, -3), 1)]
[(), ((0, 1), (0, 2), (0, 3)), True, False, False, True]
>>> [room_of((3, 1, -2, -2)), are_one_room((3, 1, -2, -2), (9, 4, -6, -7)), are_one_room((3, 1, -2, -2), (1, 3, -2, -2))]
[((1, 1, -1, -1), ((0, 1), (0, 2), (0, 3))), True, False]
>>> [ends_number((3, 1, -2, -2), 0), ends_number((2, 1, -2, -1), 0), ends_number((2, 2, 2, -3, -3), 0), ends_number((4, -4), 1), ends_number((3, 2, -5), 1)]
[(6, 1), (4, 1), (108, 1), (5, 1), (75, 1)]
>>> [piece((3, 1, -2, -2), 0).terms, piece((4, -4), 1).terms, [one.terms for one in pieces_beside((2, 1, -2, -1))], wall_jump((2, 1, -2, -1)).terms]
[{(1, 0, 0): (2, 1)}, {(3,): (1, 12), (1,): (-1, 12)}, [{(1, 0, 0): (2, 1)}, {(0, 0, 1): (-2, 1)}], {(1, 0, 0): (2, 1), (0, 0, 1): (2, 1)}]
>>> piece((2, 1, -2, -1), 0)
raises InvalidOperation
"""
# Ends for no genus at all.
NO_ENDS = NO_TUPLES + (
    (), (1,), (0,), (1, 1), (1, -2), (0, 0), (1, -1, 0), (0, 1, -1), (2, 1, -1), (1, 1, 1), (-1, -1, -1), (True, -1), (1, True, -2),
    (False, 1, -1), (None, 1, -1), ("1", -1), ((1,), (-1,)), ((1, -1),), (1, -1, 1, -1, 1, -1, 1, -1),
    (3, -1, -1, -1, 1, -2, 1), (1, 1, 1, -1, -1, -1, 0), (LONG, -LONG), (LONG, 1, -LONG - 1), [1, -1], [2, -1, -1], (2, [-1], -1),
    (3, 1, -2, -2, None), (2.0, -2.0), (1, 2, -4, 2),
)
TWO, MORE = ((3, -3), (-1, 1)), ((2, 1, -2, -1, 5, -5), (1, 1, 1, -3, 7, -7), (2, 2, 2, -3, -3))
NO_GENERA = (-1, 2, 10) + NO_INTEGERS


def lots_of(ends):
    """The lots of the positive ends and of the opposites of the negative ones."""
    lots = [tuple(sorted([sign * end for end in ends if sign * end > 0], reverse=True)) for sign in (1, -1)]
    return lots[0], lots[1]


def all_ends(many, most):
    """All ends with a sum of the positive ones of at most this."""
    values = [end for end in range(-most, most + 1) if end != 0]
    for begun in itertools.product(values, repeat=many - 1):
        ends = begun + (-sum(begun),)
        if ends[-1] != 0 and sum([end for end in ends if end > 0]) <= most:
            yield ends


def some_ends(many, most, number, chance):
    """So many ends of sizes up to the most."""
    found = []
    while len(found) < number:
        begun = tuple([chance.choice((-1, 1)) * chance.randint(1, most) for _ in range(many - 1)])
        if sum(begun) != 0:
            found.append(begun + (-sum(begun),))
    return found


def under(ends):
    """All walls on which ends lie."""
    return [wall for wall in all_walls(len(ends)) if sum([ends[index] for index in wall]) == 0]


def all_walls(many):
    found = [wall for length in range(2, many - 1) for wall in itertools.combinations(range(many), length)]
    return [wall for wall in found if 0 in wall]


def moved(ends, scale, steps):
    """The ends, enlarged, and with what is told in the place of each index added to them."""
    made = [scale * end for end in ends]
    for index, step in steps.items():
        made[index] += step
    return tuple(made)


def above_and_below(ends, wall):
    """Ends near to these ones that lie above and below a wall."""
    outside = [index for index in range(len(ends)) if index not in wall][-1]
    return [moved(ends, 1000, {wall[-1]: step, outside: -step}) for step in (1, -1)]


class TestRooms(Case):
    def test_examples(self):
        self.runs(EXAMPLES, dict(vars(module)))

    def test_constants(self):
        self.same((module.MOST_ENDS, module.MOST_ROUND), (6, 4))

    def test_is_ends(self):
        three = ((2, -1, -1), (1, 1, -2), (LONG - 1, -1, 2 - LONG), (1, 1, -1, -1), (5, -1, -1, -3))
        five = ((1, 1, 1, -1, -2), (1, -1, 1, -1, 1, -1), (5, 4, 3, 2, 1, -15))
        wrong = ANY_VALUES + NO_ENDS
        self.judges(lambda value: is_ends(value, 0), three + five, wrong + ((1, -1), (3, -3)))
        self.judges(lambda value: is_ends(value, 1), three + ((1, -1), (-3, 3), (LONG - 1, 1 - LONG)), wrong + five)
        for value in ((2, -1, -1), None, [], Formula.plain(1, 1)):
            for genus in NO_GENERA:
                self.refuses(InvalidCount, is_ends, value, genus, kept=(genus,))

    def test_walls(self):
        for many in range(2, 7):
            self.same(walls_for(many), tuple(sorted(all_walls(many))))
        self.same([len(walls_for(many)) for many in range(2, 7)], [0, 0, 3, 10, 25])
        self.same(walls_for(5)[:5], ((0, 1), (0, 1, 2), (0, 1, 3), (0, 1, 4), (0, 2)))
        self.refuses_in_order(walls_for, (6, InvalidCount, (0, 1, 7, -2) + NO_INTEGERS))

    def test_free_ends_and_rooms(self):
        chance = random.Random(14)
        tried = [ends for many in (2, 3, 4, 5, 6) for ends in some_ends(many, 6, 60, chance)]
        for ends in tried:
            free = under(ends) == []
            self.assertIs(is_free(ends), free)
            if free:
                signs = tuple([1 if end > 0 else -1 for end in ends])
                walls = [wall for wall in all_walls(len(ends)) if sum([ends[index] for index in wall]) > 0]
                self.same(room_of(ends), (signs, tuple(sorted(walls))))
            else:
                self.refuses(InvalidOperation, room_of, ends)
        free = [ends for ends in tried if under(ends) == []]
        for one in free[::3]:
            for other in free[::3]:
                alike = len(one) == len(other) and all([here * there > 0 for here, there in zip(one, other)])
                for wall in all_walls(min(len(one), len(other))):
                    alike = alike and (sum([one[at] for at in wall]) > 0) is (sum([other[at] for at in wall]) > 0)
                self.assertIs(are_one_room(one, other), alike)
        # No walls, and so one room for each sequence of signs.
        self.same([room_of((7, -7)), room_of((-1, 3, -2)), is_free((1, -1))], [((1, -1), ()), ((-1, 1, -1), ()), True])
        self.assertIs(are_one_room((2, -1, -1), (7, -1, -6)), True)
        self.assertIs(are_one_room((2, -1, -1), (-1, 2, -1)), False)
        self.assertIs(are_one_room((2, -2), (2, -1, -1)), False)

    def test_errors_of_rooms(self):
        self.refuses_in_order(is_free, ((3, -3), InvalidEnds, NO_ENDS))
        self.refuses_in_order(room_of, ((3, 1, -2, -2), InvalidEnds, NO_ENDS))
        self.refuses_in_order(are_one_room, ((3, -3), InvalidEnds, NO_ENDS), ((3, 1, -2, -2), InvalidEnds, NO_ENDS))
        self.refuses(InvalidEnds, are_one_room, (2, 1, -2, -1), (2, 1, -2, -2))
        for told in (((2, 1, -2, -1), (3, -3)), ((3, -3), (2, 1, -2, -1)), ((2, 1, -2, -1), (2, 1, -2, -1))):
            self.refuses(InvalidOperation, are_one_room, *told)

    def test_numbers_by_linked_numbers(self):
        # All small ends, free ones and those on walls alike.
        for many, genus, most, step in ((3, 0, 8, 1), (4, 0, 6, 1), (5, 0, 5, 5), (6, 0, 5, 23), (2, 1, 9, 1), (3, 1, 6, 1), (4, 1, 5, 3)):
            known = {}
            for ends in list(all_ends(many, most))[::step]:
                lots = lots_of(ends)
                if lots not in known:
                    known[lots] = linked_number(*lots, 2 * genus - 2 + many)
                self.same(ends_number(ends, genus), known[lots])
                # For all of them the sum over pieces is what characters tell.
                self.assertIs(is_ends(ends, genus), True)
            for lots in list(known)[::4]:
                swaps = 2 * genus - 2 + many
                self.same(numbered_from_linked(*lots, swaps), numbered_number(*lots, swaps))

    def test_numbers_on_no_wall_on_one_and_on_more(self):
        seen = {}
        for ends in ((5, 2, -3, -4), (3, 1, -3, -1), (2, 2, -2, -2), (1, 1, 1, -1, -2), (3, 3, -3, -3), (1, -1, 1, -1, 1, -1), (4, 2, 1, -4, -3)):
            seen[min(len(under(ends)), 2)] = True
            self.same(ends_number(ends, 0), linked_number(*lots_of(ends), len(ends) - 2))
            if len(ends) == 4:
                self.same(ends_number(ends, 1), linked_number(*lots_of(ends), len(ends)))
        self.assertEqual(sorted(seen), [0, 1, 2])

    def test_numbers_do_not_hang_on_the_sequence_and_the_sign(self):
        chance = random.Random(15)
        for many, genus in ((2, 1), (3, 0), (3, 1), (4, 0), (4, 1), (5, 0), (6, 0)):
            for ends in some_ends(many, 9, 3, chance):
                wanted = ends_number(ends, genus)
                self.assertGreater(wanted[0], -1)
                for _ in range(2):
                    other = list(ends)
                    chance.shuffle(other)
                    self.same(ends_number(tuple(other), genus), wanted)
                self.same(ends_number(tuple([-end for end in ends]), genus), wanted)

    def test_told_formulas(self):
        for ends in ((7, -3, -4), (6, -1, -2, -3), (9, -1, -2, -2, -4), (11, -1, -1, -2, -3, -4)):
            swaps, total = len(ends) - 2, max(ends)
            wanted = pair(math.factorial(swaps) * total ** (swaps - 1))
            self.same(ends_number(ends, 0), wanted)
            self.same(ends_number(ends[::-1], 0), wanted)
            self.same(ends_number(tuple([-end for end in ends]), 0), wanted)
            self.same(one_side_number(lots_of(ends)[1], 0), wanted)
        chance = random.Random(16)
        for ends in some_ends(4, 99, 40, chance):
            self.same(ends_number(ends, 0), pair(2 * max([abs(end) for end in ends])))
        for end in (1, 2, 3, 12, 10 ** 20 + 1, LONG - 1):
            self.same(ends_number((end, -end), 1), pair(Fraction(end * (end * end - 1), 12)))
        for here, there in ((1, 1), (2, 1), (5, 9), (10 ** 30, 10 ** 30 + 7)):
            wanted = pair(Fraction((here + there) ** 2 * (here * here + there * there - 1), 4))
            for ends in ((here, there, -here - there), (-there, here + there, -here)):
                self.same(ends_number(ends, 1), wanted)
        for lot in ((2, 1), (3, 2), (2, 2, 1), (4, 1, 1)):
            ends = (sum(lot),) + tuple([-member for member in lot])
            self.same(ends_number(ends, 1), one_side_number(lot, 1))

    def test_pieces_where_one_end_has_its_sign_alone(self):
        # The formulas of the stage 13, with the ends but the last one as letters; d is the sum of the members.
        for genus, ends in ((0, (1, 2, -3)), (0, (1, 1, 2, -4)), (0, (1, 3, 1, 1, -6)), (1, (2, -2)), (1, (1, 2, -3)), (1, (1, 1, 1, -3))):
            self.assertTrue(piece(ends, genus) == one_side_in_ends(genus, len(ends) - 1))

    def test_pieces_tell_all_of_their_room(self):
        chance = random.Random(17)
        for many, genus in ((2, 1), (3, 0), (3, 1), (4, 0), (4, 1), (5, 0), (6, 0)):
            seen = 0
            for ends in some_ends(many, 12, 12, chance):
                if not is_free(ends):
                    continue
                found = piece(ends, genus)
                self.same((type(found), found.letters), (Formula, many - 1))
                self.assertLessEqual({sum(exponents) for exponents in found.terms}, {many - 3} if genus == 0 else {many + 1, many - 1})
                self.same(found.at(ends[:-1]), ends_number(ends, genus))
                steps = [0] * many
                for _ in range(4):
                    here, there = chance.sample(range(many), 2)
                    steps[here], steps[there] = steps[here] + 3, steps[there] - 3
                for near in (moved(ends, 50, dict(enumerate(steps))), moved(ends, 10 ** 40, {0: 1, many - 1: -1}), moved(ends, 2, {})):
                    if is_free(near) and are_one_room(ends, near):
                        seen += 1
                        self.assertTrue(piece(near, genus) == found)
                        self.same(found.at(near[:-1]), ends_number(near, genus))
            self.assertGreater(seen, 3)

    def test_pieces_by_linked_numbers(self):
        # The formula holds at small ends of its room, whose numbers are counted in another way.
        for genus, many, most in ((0, 4, 7), (0, 5, 5), (1, 3, 6), (1, 4, 5)):
            by_room = {}
            for ends in all_ends(many, most):
                if is_free(ends):
                    by_room.setdefault(room_of(ends), []).append(ends)
            for room in list(by_room)[::5]:
                found = piece(by_room[room][0], genus)
                for ends in by_room[room][::6]:
                    self.same(found.at(ends[:-1]), linked_number(*lots_of(ends), 2 * genus - 2 + many))

    def test_great_ends(self):
        great = 10 ** 58
        for ends, genus in (((7, 2, -4, 1, -6), 0), ((5, 3, -4, -2, 7, -9), 0), ((3, 1, -2, -2), 1), ((5, 2, -4, -3), 0)):
            self.assertIs(is_free(ends), True)
            near = moved(ends, great, {0: 10 ** 40 + 1, 1: 3, len(ends) - 1: -10 ** 40 - 4})
            self.assertIs(are_one_room(ends, near), True)
            self.same(ends_number(near, genus), piece(ends, genus).at(near[:-1]))
            self.assertTrue(piece(near, genus) == piece(ends, genus))
        ends = (9 * great, great + 3, -9 * great, -great - 3)
        self.same(ends_number(ends, 0), (18 * great, 1))
        self.same(ends_number(ends, 1), piece((90, 11, -91, -10), 1).at(ends[:-1]))
        self.same(pieces_beside(ends)[0].at(ends[:-1]), (18 * great, 1))
        self.refuses(InvalidEnds, ends_number, (100 * great, -90 * great, -10 * great), 0)

    def test_beside_a_wall(self):
        chance, seen = random.Random(18), {}
        tried = [(2, 1, -2, -1), (1, 2, -1, -2), (-1, 2, 1, -2), (4, 1, 2, -1, -6), (4, 1, 2, -3, -4)]
        for many in (4, 5, 6):
            tried += [ends for ends in some_ends(many, 7, 300, chance) if len(under(ends)) == 1][:12]
        for ends in tried:
            (wall,) = under(ends)
            seen[len(ends), len(wall)] = True
            above, below = pieces_beside(ends)
            self.assertIsInstance(pieces_beside(ends), tuple)
            near = above_and_below(ends, wall)
            self.assertTrue(above == piece(near[0], 0))
            self.assertTrue(below == piece(near[1], 0))
            self.same(above.at(ends[:-1]), ends_number(ends, 0))
            self.same(below.at(ends[:-1]), ends_number(ends, 0))
            jump = wall_jump(ends)
            self.assertTrue(jump == above.minus(below))
            self.assertTrue(jump == jump_of_pieces(ends, wall))
            self.same(jump.letters, len(ends) - 1)
        self.assertEqual(sorted(seen), [(4, 2), (5, 2), (5, 3), (6, 2), (6, 3), (6, 4)])

    def test_errors_of_numbers_and_pieces(self):
        for call in (ends_number, piece):
            self.refuses_in_order(call, ((3, 1, -2, -2), InvalidEnds, NO_ENDS), (1, InvalidCount, NO_GENERA))
            for ends in TWO:
                call(ends, 1)
                self.refuses(InvalidEnds, call, ends, 0)
                self.refuses(InvalidCount, call, ends, 2, kept=(2,))
            for ends in MORE:
                ends_number(ends, 0)
                self.refuses(InvalidEnds, call, ends, 1)
                self.refuses(InvalidCount, call, ends, True, kept=(True,))
        for ends, genus in (((2, 1, -2, -1), 0), ((2, 1, -2, -1), 1), ((1, 1, -1, -1), 0), ((2, 1, -2, -1, 5, -5), 0)):
            self.refuses(InvalidOperation, piece, ends, genus)
        for call in (pieces_beside, wall_jump):
            self.refuses_in_order(call, ((2, 1, -2, -1), InvalidEnds, NO_ENDS + TWO))
            for ends in ((3, 1, -2, -2), (1, 1, -1, -1), (2, -1, -1), (1, -1, 1, -1, 1, -1), (5, 4, 3, 2, 1, -15)):
                self.refuses(InvalidOperation, call, ends)

    def test_pieces_stay_apart(self):
        found = piece((3, 1, -2, -2), 0)
        found.terms.clear()
        self.same(piece((3, 1, -2, -2), 0).terms, {(1, 0, 0): (2, 1)})

    def test_what_is_not_true(self):
        self.assertFalse(piece((3, 1, -2, -2), 0) == piece((1, 3, -2, -2), 0))
        self.assertEqual(room_of((3, 1, -2, -2))[0], room_of((1, 3, -2, -2))[0])
        # On the wall (0, 2), where the sum of these ends is 0, the piece above is 2 * 2.
        self.same(pieces_beside((2, 1, -2, -1))[0].at((2, 1, -2)), (4, 1))


def jump_of_pieces(ends, wall):
    """The product of [14.4], by the pieces of both lesser ends."""
    letters = len(ends) - 1
    forms = [Formula.letter(letters, place) for place in range(letters)]
    last = Formula(letters, {})
    for form in forms:
        last = last.minus(form)
    forms.append(last)
    total = Formula(letters, {})
    for index in wall:
        total = total.plus(forms[index])
    near = above_and_below(ends, wall)[0]
    made = total.times(math.comb(len(ends) - 2, len(wall) - 1))
    outside = [index for index in range(len(ends)) if index not in wall]
    for group, sign in ((wall, -1), (outside, 1)):
        step = sum([near[index] for index in wall])
        lesser = [near[index] for index in group] + [sign * step]
        told = [forms[index] for index in group]
        made = made.times(piece(tuple(lesser), 0).put_in(tuple(told)))
    return made
