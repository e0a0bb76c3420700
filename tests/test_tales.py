"""Stage 12: tales of strings [12.1] to [12.6]."""

import itertools
import types
from fractions import Fraction

from support import ANY_VALUES, LONG, NO_INTEGERS, NO_TUPLES, Case, first_of, pair
from test_kinds import moves_of, then
from test_linked import joins
from test_lots import NO_LOTS, kind_of_move
from test_moves import NO_MOVES, NO_ROWS, every, product_by_swaps, rows, swaps

from swapsheets.errors import InvalidCount, InvalidEnds, InvalidLot, InvalidMove, InvalidOperation, InvalidRow, TooMany
from swapsheets.linked.numbers import linked_number, numbered_number
from swapsheets.moving.moves import first_move
from swapsheets.squares.lots import lots, renamings
from swapsheets.strings import tales as module
from swapsheets.strings.tales import Tale, linked_sum, tale_of, tales, tales_number, tales_sum
from swapsheets.walking.walks import rows_number

EXAMPLES = """
>>> TALE = Tale((2, 1), (("join", 0, 1), ("part", 2, 1), ("join", 3, 4)), (5,))
>>> [TALE.last_lot, TALE.lengths, TALE.weight, TALE.is_linked, TALE.genus, TALE.lot_behind(2), str(TALE)]
[(3,), (2, 1, 3, 1, 2, 3), (3, 1), True, 1, (2, 1), 'tale of (2, 1) to (3), 3 steps']
>>> [tale.steps for tale in tales((2, 1), (2, 1), 1)], [(tale.ends, tale.weight) for tale in tales((1, 1), (1, 1), 0)]
([], [((0, 1), (1, 1)), ((1, 0), (1, 1))])
>>> [tales_number((2, 1), (3,), 1), tales_sum((2, 1), (3,), 1), tales_sum((2, 1), (2, 1), 2), linked_sum((2, 1), (2, 1), 2), tales_number((2, 1), (3,), 3)]
[1, (1, 1), (9, 2), (4, 1), 5]
>>> [tale_of((1, 0, 2), ((0, 2), (1, 2))).steps, tale_of((1, 0, 2), ((0, 2), (1, 2))).ends]
[(('join', 0, 1), ('part', 2, 1)), (4, 3)]
>>> Tale((2,), (("part", 0, 2),), (1,))
raises InvalidOperation
"""
HIGH = ((11,), (1,) * 11, (6, 5), (14,), (24,))
NO_FIRST_LOTS = NO_LOTS + HIGH + ((),)
# No steps for the strings of (2, 1).
NO_STEPS = NO_TUPLES + (
    (1,), ("join", 0, 1), (None,), ((),), (("join",),), (("join", 0),), (("join", 0, 1, 2),), (("join", 1, 0),),
    (("join", 0, 0),), (("join", 0, 2),), (("join", -1, 0),), (("join", False, 1),), (("join", 0, True),),
    (("join", 0, None),), (("join", "0", 1),), (["join", 0, 1],), [("join", 0, 1)], (("Join", 0, 1),), ((0, 0, 1),),
    ((None, 0, 1),), ((True, 0, 1),), (("part", 0, 0),), (("part", 0, 2),), (("part", 1, 1),), (("part", 2, 1),),
    (("part", 0, True),), (("part", False, 1),), (("part", 0, -1),), (("part", 0, LONG),), (("part", -2, 1),),
    (("part", LONG, 1),), (("part", 0, None),), (("part", 0, 1), ("part", 0, 1)), (("join", 0, 1), ("join", 0, 1)),
    (("join", 0, 1), ("join", 0, 2)), (("join", 0, 1), ("join", 1, 2)), (("join", 0, 1), ("part", 1, 1)),
    (("part", 0, 1), ("join", 2, 3), ("join", 1, 3)),
    (("join", 0, 1), ("part", 3, 1)), (("join", 0, 1), ("part", 2, 3)), (("part", 0, 1), ("join", 2, 1)),
    (("part", 0, 1), ("part", 2, 1)), (("join", 0, 1), None), ((("join", 0, 1),),), (("joined", 0, 1),), ((("join",), 0, 1),),
    (("join", (0,), 1),), (("part", 0, 1), ("join", 2, 3)) * 6 + (("part", 0, 1),),
    tuple([("join", 0, 1)] + [("part", 2, 1)] * 12),
)
# No ends behind ("join", 0, 1), ("part", 2, 1) from (2, 1): the strings 3 and 4 of the lengths 1 and 2 are left.
NO_TALE_ENDS = NO_TUPLES + (
    (), (4,), (3,), (3, 4), (4, 4), (3, 3), (4, 3, 3), (4, 3, 4), (4, 0), (4, 1), (0, 3), (2, 3), (2,), (4, -2), (-1, 3), (4, True),
    (4, None), (None, 3), ("4", "3"), (4, 5), (5, 3), (4, LONG), (LONG, 3), [4, 3], ((4, 3),), ((4,), (3,)), (4, 3, None), (4, "3"),
)
STEPS = (("join", 0, 1), ("part", 2, 1))


def there(lot, steps):
    """The dict from names to lengths of the strings behind the steps, or None; all strings, and what made and used them."""
    left, every_string = dict(enumerate(lot)), list(lot)
    for step in steps:
        if step[0] == "join":
            if not (step[1] < step[2] and step[1] in left and step[2] in left):
                return None
            made = [left.pop(step[1]) + left.pop(step[2])]
        else:
            if not (step[1] in left and 0 < step[2] < left[step[1]]):
                return None
            whole = left.pop(step[1])
            made = [step[2], whole - step[2]]
        for length in made:
            left[len(every_string)] = length
            every_string.append(length)
    return left, every_string


def all_tales(one, other, many):
    """All tales, ascending, by trying all steps and all ends."""
    begun = [()]
    for at in range(many):
        names = range(len(one) + 2 * at)
        tried = [("join", a, b) for a in names for b in names] + [("part", a, i) for a in names for i in range(sum(one))]
        begun = [steps + (step,) for steps in begun for step in tried if there(one, steps + (step,)) is not None]
    found = []
    for steps in begun:
        left, _ = there(one, steps)
        for ends in itertools.permutations(left):
            if tuple([left[name] for name in ends]) == other:
                found.append((steps, ends))
    return sorted(found)


def weight_by_rule(lot, steps):
    left, lengths = there(lot, steps)
    weight = Fraction(1)
    for step in steps:
        weight *= Fraction(1, 2) if step[0] == "part" else 1
    for name, length in enumerate(lengths):
        if name >= len(lot) and name not in left:
            weight *= length
        if name < len(lot) and name in left:
            weight /= length
    return weight


def hangs_together(lot, steps):
    links, name = [], len(lot)
    for step in steps:
        used = step[1:3] if step[0] == "join" else step[1:2]
        made = [name] if step[0] == "join" else [name, name + 1]
        name += len(made)
        links += [(here, target) for here in used for target in made]
    seen, waiting = set(), [0]
    while waiting:
        at = waiting.pop()
        if at not in seen:
            seen.add(at)
            waiting += [target for here, target in links if here == at] + [here for here, target in links if target == at]
    return len(seen) == name, name


class TestTales(Case):
    def test_examples(self):
        self.runs(EXAMPLES, dict(vars(module)))

    def test_constants(self):
        self.same((module.MOST_STEPS, module.MOST_TALES), (12, 20000))

    def test_tales_step_by_step(self):
        for total in range(1, 5):
            for one in lots(total):
                for other in lots(total):
                    for many in range(4 if total < 4 else 3):
                        wanted = all_tales(one, other, many)
                        found = list(tales(one, other, many))
                        self.same([(tale.steps, tale.ends) for tale in found], wanted)
                        self.same(tales_number(one, other, many), len(wanted))
                        weights = [weight_by_rule(one, steps) for steps, _ in wanted]
                        self.same([tale.weight for tale in found], [pair(weight) for weight in weights])
                        self.same(tales_sum(one, other, many), pair(sum(weights)))
                        linked = [weight for weight, (steps, _) in zip(weights, wanted) if hangs_together(one, steps)[0]]
                        self.same(linked_sum(one, other, many), pair(sum(linked)))
                        for tale in found:
                            self.same((tale.first_lot, tale.last_lot), (one, other))

    def test_tales_told_one_by_one(self):
        told = (((3, 2, 1), (4, 1, 1), 3), ((2, 2, 1), (2, 2, 1), 4), ((1, 1, 1), (2, 1), 5), ((5,), (3, 2), 3), ((6,), (6,), 4))
        for one, other, many in told:
            for tale in tales(one, other, many):
                left, lengths = there(one, tale.steps)
                self.assertIsInstance(tale, Tale)
                self.same(tale.lengths, tuple(lengths))
                self.same((tale.first_lot, tale.last_lot, len(tale)), (one, other, many))
                self.same(tale.weight, pair(weight_by_rule(one, tale.steps)))
                self.assertEqual([left[name] for name in tale.ends], list(other))
                linked, strings = hangs_together(one, tale.steps)
                self.assertIs(tale.is_linked, linked)
                if linked:
                    self.same(tale.genus * 2, many + 2 - len(one) - len(other))
                    # Each step touches three strings; strings and steps are a tree if that is one less than they are.
                    self.assertIs(tale.genus == 0, 3 * many == strings + many - 1)
                    self.assertGreaterEqual(tale.genus, 0)
                else:
                    self.assertIs(tale.genus, None)
                for behind in range(many + 1):
                    states = there(one, tale.steps[:behind])[0]
                    self.same(tale.lot_behind(behind), tuple(sorted(states.values(), reverse=True)))

    def test_sums_of_weights_are_numbers_of_rows(self):
        for total in range(1, 6):
            for one in lots(total):
                for other in lots(total):
                    for many in range(4 if total > 3 else 6):
                        if tales_number(one, other, many) > 3000 or len(one + other) > 10:
                            continue
                        number = Fraction(*rows_number(one, other, many)) * renamings(one) * renamings(other)
                        self.same(tales_sum(one, other, many), pair(number))
                        self.same(tales_sum(one, other, many), numbered_number(one, other, many))
                        self.same(linked_sum(one, other, many), linked_number(one, other, many))
        self.same(linked_sum((10,), (6, 3, 1), 2), linked_number((10,), (6, 3, 1), 2))
        self.same(linked_sum((2,), (2,), 12), linked_number((2,), (2,), 12))

    def test_a_tale_of_no_step(self):
        for lot in ((1,), (10,), (2, 2, 1), (3, 2, 1)):
            found = list(tales(lot, lot, 0))
            self.same(len(found), renamings(lot))
            for tale in found:
                self.same((tale.steps, tale.lengths, len(tale), tale.lot_behind(0)), ((), lot, 0, lot))
            weight = Fraction(1)
            for member in lot:
                weight /= member
            self.same(found[0].weight, pair(weight))
            self.assertIs(found[0].is_linked, len(lot) == 1)
            self.same(found[0].genus, 0 if len(lot) == 1 else None)
        self.same(str(Tale((1,), (), (0,))), "tale of (1) to (1), 0 steps")
        self.same([tale.ends for tale in tales((2, 2, 1), (2, 2, 1), 0)], [(0, 1, 2), (1, 0, 2)])
        self.same(list(tales((2, 1), (3,), 0)), [])

    def test_tales_at_their_bounds(self):
        steps = (("part", 0, 1), ("join", 1, 2))
        for at in range(1, 6):
            steps += (("part", 3 * at, 1), ("join", 3 * at + 1, 3 * at + 2))
        tale = Tale((2,), steps, (18,))
        self.same((len(tale), tale.genus, tale.is_linked, tale.weight), (12, 6, True, pair(Fraction(2 ** 5, 2 ** 6))))
        self.refuses(InvalidOperation, Tale, (2,), steps + (("part", 18, 1),), (19, 20))
        # A string is parted into 1 and all but 1, in either sequence.
        for first, ends in ((1, (2, 1)), (9, (1, 2))):
            tale = Tale((10,), (("part", 0, first),), ends)
            self.same((tale.lengths, tale.last_lot, tale.weight, tale.genus), ((10, first, 10 - first), (9, 1), (1, 2), 0))
        self.refuses(InvalidOperation, Tale, (10,), (("part", 0, 10),), (1, 2))
        self.refuses(InvalidOperation, Tale, (10,), (("part", 0, 0),), (1, 2))
        # Joined strings are named in their sequence.
        self.refuses(InvalidOperation, Tale, (5, 5), (("join", 1, 0),), (2,))
        self.same(Tale((5, 5), (("join", 0, 1),), (2,)).weight, (1, 1))
        self.same(str(Tale((5, 5), (("join", 0, 1),), (2,))), "tale of (5, 5) to (10), 1 steps")
        # Ends of equal lengths in each sequence, and equal parts.
        self.same([Tale((4,), (("part", 0, 2),), ends).ends for ends in ((1, 2), (2, 1))], [(1, 2), (2, 1)])

    def test_errors_of_tales_made(self):
        self.refuses_in_order(Tale, ((2, 1), InvalidLot, NO_FIRST_LOTS), (STEPS, InvalidOperation, NO_STEPS),
                              ((4, 3), InvalidEnds, NO_TALE_ENDS))
        self.refuses_in_order(lambda ends: Tale((2, 2), (), ends), ((1, 0), InvalidEnds, NO_TALE_ENDS + ((0, 0), (0, 1, 0), (0,))))

    def test_a_tale_never_changes(self):
        tale = Tale((2, 1), STEPS, (4, 3))
        for name in ("first_lot", "last_lot", "steps", "ends", "lengths", "weight", "is_linked", "genus"):
            with self.assertRaises(AttributeError):
                setattr(tale, name, None)
        self.same((tale.first_lot, tale.last_lot, tale.steps, tale.ends), ((2, 1), (2, 1), STEPS, (4, 3)))
        for iterate in (iter, list):
            with self.assertRaises(TypeError):
                iterate(tale)

    def test_lot_behind(self):
        tale = Tale((2, 1), STEPS + (("join", 3, 4),), (5,))
        self.same([tale.lot_behind(many) for many in range(4)], [(2, 1), (3,), (2, 1), (3,)])
        self.refuses_in_order(tale.lot_behind, (3, InvalidCount, (-1, 4, 12) + NO_INTEGERS))
        self.refuses(InvalidCount, Tale((1,), (), (0,)).lot_behind, 1, kept=(1,))

    def test_equal_tales(self):
        tale = Tale((2, 2), (("part", 0, 1),), (1, 2, 3))
        self.assertTrue(tale == Tale((2, 2), (("part", 0, 1),), (1, 2, 3)))
        self.assertFalse(tale != Tale((2, 2), (("part", 0, 1),), (1, 2, 3)))
        others = (Tale((2, 2), (("part", 0, 1),), (1, 3, 2)), Tale((2, 2), (("part", 1, 1),), (0, 2, 3)), Tale((2, 2), (), (0, 1)),
                  Tale((2, 1, 1), (), (0, 1, 2)), Tale((3, 1), (("part", 0, 1),), (3, 2, 1)))
        for other in others + ANY_VALUES:
            self.assertIs(tale == other, False)
            self.assertIs(other == tale, False)
            self.assertIs(tale != other, True)
        self.assertIn(tale, [None, tale])
        self.assertNotIn(tale, others)
        # Equal steps and ends behind other first lots, and equal ends behind other steps.
        self.assertIs(Tale((3, 1), (("join", 0, 1),), (2,)) == Tale((2, 2), (("join", 0, 1),), (2,)), False)
        around = [Tale((4,), (("part", 0, first), ("join", 1, 2)), (3,)) for first in (1, 2, 3)]
        self.assertEqual([one == other for one in around for other in around], [True, False, False, False, True, False, False, False, True])

    def test_numbers_of_many_tales(self):
        # Also where there are too many to be listed: by steps between lots alone.
        for one, other in (((1,) * 10, (10,)), ((4, 3, 2, 1), (5, 5)), ((10,), (10,)), ((2, 2, 1), (3, 2))):
            states = {one: 1}
            for many in range(13):
                self.same(tales_number(one, other, many), states.get(other, 0) * renamings(other))
                behind = {}
                for lot, number in states.items():
                    names = dict(enumerate(lot))
                    for step in [("join", a, b) for a in names for b in names if a < b] + [
                            ("part", a, i) for a in names for i in range(1, names[a])]:
                        target = tuple(sorted(there(lot, (step,))[0].values(), reverse=True))
                        behind[target] = behind.get(target, 0) + number
                states = behind

    def test_twenty_thousand_tales(self):
        # No numbers of tales are nearer to 20,000 than these two.
        one, other, many = (4, 4, 1, 1), (4, 4, 2), 5
        self.same(tales_number(one, other, many), 19992)
        found = [(tale.steps, tale.ends) for tale in tales(one, other, many)]
        self.assertEqual(len(found), 19992)
        self.assertEqual(found, sorted(set(found)))
        whole = Fraction(*rows_number(one, other, many)) * renamings(one) * renamings(other)
        self.same(tales_sum(one, other, many), pair(whole))
        self.same(linked_sum(one, other, many), linked_number(one, other, many))
        self.same(tales_number((3, 2, 2, 2), (4, 3, 2), 5), 20028)
        for told in (((3, 2, 2, 2), (4, 3, 2), 5), ((5, 2, 2, 1), (7, 2, 1), 5), ((1,) * 10, (10,), 9), ((10,), (10,), 12)):
            self.refuses(TooMany, first_of(tales), *told, kept=(20000,))
            self.refuses(TooMany, tales_sum, *told, kept=(20000,))
            self.refuses(TooMany, linked_sum, *told, kept=(20000,))
        self.assertIsInstance(tales((1,), (1,), 0), types.GeneratorType)
        # The first one comes soon, however many steps there are that lead elsewhere.
        self.same(next(tales((2, 1), (2, 1), 12)).steps[:2], (("join", 0, 1), ("part", 2, 1)))

    def test_errors_of_tales(self):
        for call in (first_of(tales), tales_number, tales_sum, linked_sum):
            self.refuses_in_order(call, ((2, 1), InvalidLot, NO_FIRST_LOTS), ((3,), InvalidLot, NO_FIRST_LOTS),
                                  (1, InvalidCount, (-1, 13) + NO_INTEGERS))
            self.refuses(InvalidOperation, call, (2, 1), (2, 2), 1)
            self.refuses(InvalidOperation, call, (2, 1), (2, 2), -1)
            self.refuses(InvalidCount, call, (1,) * 10, (1,) * 10, 13, kept=(13,))
        late = tales((1,) * 10, (1,) * 10, 12)
        self.refuses(TooMany, next, late, kept=(20000,))
        self.same([tales_number((2,), (2,), 12), len(list(tales((2,), (2,), 12)))], [1, 1])

    def test_rows_that_tell_tales(self):
        for size, many in ((1, 0), (2, 3), (3, 3), (4, 2), (4, 3)):
            for move in every(size)[::1 if size < 4 else 3]:
                for row in list(rows(size, many))[::1 if size < 4 else 7]:
                    tale = tale_of(move, row)
                    self.assertIsInstance(tale, Tale)
                    self.same(tale.first_lot, kind_of_move(move))
                    self.same(tale.last_lot, kind_of_move(then(move, product_by_swaps(size, row))))
                    self.same(len(tale), many)
                    for behind in range(many + 1):
                        product = product_by_swaps(size, row[:behind])
                        self.same(tale.lot_behind(behind), kind_of_move(then(move, product)))
                    self.assertIs(tale.is_linked, joins(move, row))

    def test_weights_and_rows_that_tell(self):
        # Of all ends, the sum of the weights is the number of moves and rows that tell them, divided.
        for one, other, many in (((2, 1), (2, 1), 2), ((2, 2), (3, 1), 2), ((3,), (1, 1, 1), 2), ((2, 1, 1), (2, 2), 3)):
            size, told = sum(one), {}
            for move in moves_of(one):
                for row in rows(size, many):
                    tale = tale_of(move, row)
                    if tale.last_lot == other:
                        told[tale.steps] = told.get(tale.steps, 0) + 1
            found = {tale.steps for tale in tales(one, other, many)}
            self.assertTrue(set(told) <= found)
            share = Fraction(renamings(one) * renamings(other), len(every(size)))
            self.same(tales_sum(one, other, many), pair(sum(told.values()) * share))

    def test_told_tales_by_hand(self):
        # The cycles (0, 3), (1, 4) and (2,): then (1, 2, 4), then (0,) and (3,), then (1,) and (2, 4).
        tale = tale_of((3, 4, 2, 0, 1), ((2, 4), (0, 3), (1, 2)))
        self.same(tale.steps, (("join", 1, 2), ("part", 0, 1), ("part", 3, 1)))
        self.same((tale.first_lot, tale.lengths), ((2, 2, 1), (2, 2, 1, 3, 1, 1, 1, 2)))
        # Longer ones first, (2, 4), and then (0,), (1,) and (3,) by their least places.
        self.same(tale.ends, (7, 4, 6, 5))
        # The cycle of the lesser place comes first: (0, 1) and (2,), or (0,) and (1, 2).
        self.same([tale_of((1, 2, 0), ((0, 2),)).steps, tale_of((1, 2, 0), ((0, 2),)).ends], [(("part", 0, 2),), (1, 2)])
        self.same([tale_of((1, 2, 0), ((0, 1),)).steps, tale_of((1, 2, 0), ((0, 1),)).ends], [(("part", 0, 1),), (2, 1)])
        # By their least places (0, 3) comes ahead of (1, 2), as a first string and as a last one.
        self.same(tale_of((3, 2, 1, 0), ((0, 3),)).steps, (("part", 0, 1),))
        self.same(tale_of((0, 1, 2, 3), ((0, 3), (1, 2))).ends, (4, 5))
        self.same(tale_of((0, 1, 2, 3), ((1, 2), (0, 3))).ends, (5, 4))
        # The longer one of the cycles (0,) and (1, 2) has the name 0.
        self.same([tale_of((0, 2, 1), ((0, 1),)).steps, tale_of((0, 2, 1), ()).ends], [(("join", 0, 1),), (0, 1)])
        self.same([tale_of((0, 2, 1), ((1, 2),)).steps, tale_of((0, 2, 1), ((1, 2),)).ends], [(("part", 0, 1),), (1, 2, 3)])

    def test_told_tales_at_their_bounds(self):
        around = first_move((10,))
        tale = tale_of(around, ((0, 9),) * 12)
        self.same((len(tale), tale.first_lot, tale.is_linked), (12, (10,), True))
        self.refuses(TooMany, tale_of, around, ((0, 9),) * 13, kept=(12,))
        self.refuses(TooMany, tale_of, around, ((0, 9),) * 200, kept=(12,))
        for size in (11, 24):
            self.refuses(TooMany, tale_of, tuple(range(size)), ((0, 1),) * 13, kept=(10,))
            self.refuses(TooMany, tale_of, tuple(range(size)), (), kept=(10,))
            self.refuses(InvalidRow, tale_of, tuple(range(size)), ((0, 1),) * 201)
        self.refuses_in_order(tale_of, ((0, 1, 2, 3), InvalidMove, NO_MOVES), (tuple(swaps(4)), InvalidRow, NO_ROWS))
        self.refuses(InvalidRow, tale_of, (0, 1), ((0, 2),))

    def test_what_is_not_true(self):
        found = {}
        for row in rows(3, 2):
            tale = tale_of((0, 1, 2), row)
            found.setdefault((tale.steps, tale.ends), set()).add(product_by_swaps(3, row))
        self.assertTrue(any([len(products) > 1 for products in found.values()]))
