"""Stage 18: braid moves [18.1] to [18.6], and [0.19]."""

import itertools
import random

from support import ANY_VALUES, LONG, NO_INTEGERS, NO_TUPLES, Case
from test_kinds import moves_of, taken_back, then
from test_moves import NO_ROWS, every, product_by_swaps, rows, swaps

from swapsheets.braided import braids as module
from swapsheets.braided.braids import are_braided, braid_lot, braid_lots_number, braid_way, first_row, is_braid_way
from swapsheets.braided.braids import joined_lots, led_by, numbers_of, parting, stepped
from swapsheets.errors import InvalidCount, InvalidOperation, InvalidRow, InvalidWay, TooMany
from swapsheets.linked.numbers import linked_number
from swapsheets.squares.lots import class_size, lots, renamings

EXAMPLES = """
>>> ROW = ((0, 1), (1, 2), (0, 2))
>>> [stepped(3, ROW, 1), stepped(3, ROW, -1), led_by(3, ROW, (1, -1)) == ROW, first_row(3, ROW), joined_lots(5, ((0, 2), (3, 4), (0, 2))), numbers_of(5, ((0, 2), (3, 4), (0, 2)))]
[((0, 2), (0, 1), (0, 2)), ((1, 2), (0, 2), (0, 2)), True, ((0, 1), (0, 1), (1, 2)), ((0, 2), (3, 4)), (2, 1)]
>>> [parting(4, ((0, 1), (0, 1), (0, 1), (2, 3)), ((0, 1), (2, 3), (2, 3), (2, 3))), is_braid_way(3, ROW, ((0, 2), (0, 1), (0, 2)), (1,)), len(braid_lot(4, ((0, 1), (1, 2), (2, 3)))), [braid_lots_number(3, many) for many in (0, 1, 2, 3, 4)]]
['numbers', True, 16, [1, 3, 5, 6, 6]]
>>> stepped(3, ROW, 3)
raises InvalidOperation
"""
NO_EIGHT = (-1, 0, 9, 24) + NO_INTEGERS
# No rows of at most twelve swaps of four places.
NO_TWELVE = NO_ROWS + (((0, 1),) * 13, ((0, 1),) * 200, ((0, 1), (2, 4)))
ROW = ((0, 1), (1, 2), (0, 2))
# No ways for rows of three swaps, beside all that is no tuple.
NO_WAYS = NO_TUPLES + (
    (0,), (3,), (-3,), (1, 0), (1, 2, 3), (True,), (1, True), (False,), (None,), ("1",), ((1,),), (LONG,), (-LONG,), (1, -4), [1],
    (1, None), (1,) * 20001, (1, -1) * 10001, (1.0,),
)


def swapped(swap, by):
    """The swap, its places exchanged as another swap does."""
    low, high = by
    return tuple(sorted([high if place == low else low if place == high else place for place in swap]))


def by_step(row, step):
    at = abs(step) - 1
    one, other = row[at:at + 2]
    made = (swapped(other, one), one) if step > 0 else (other, swapped(one, other))
    return row[:at] + made + row[at + 2:]


def by_way(row, way):
    for step in way:
        row = by_step(row, step)
    return row


def lots_joined(size, row):
    """The joined lots and their numbers, by taking lots together."""
    lots_of = [{place} for place in range(size)]
    for low, high in row:
        here, there = [lot for lot in lots_of if low in lot][0], [lot for lot in lots_of if high in lot][0]
        if here is not there:
            lots_of.remove(there)
            here |= there
    found = sorted([tuple(sorted(lot)) for lot in lots_of if len(lot) > 1])
    return tuple(found), tuple([len([swap for swap in row if swap[0] in lot]) for lot in found])


def told_of(size, row):
    """All that steps leave as it is."""
    return (product_by_swaps(size, row),) + lots_joined(size, row)


def braid_lots(size, many):
    """The braid lots of all rows, as lists, by going on from each row by all steps."""
    left, found = dict.fromkeys(rows(size, many)), []
    while left:
        start = min(left) if len(left) < 50 else next(iter(left))
        seen, waiting = {start}, [start]
        while waiting:
            row = waiting.pop()
            for step in [sign * at for at in range(1, many) for sign in (1, -1)]:
                other = by_step(row, step)
                if other not in seen:
                    seen.add(other)
                    waiting.append(other)
        for row in seen:
            del left[row]
        found.append(sorted(seen))
    return found


def first_by_rule(size, row):
    """The first row by [18.4], word by word."""
    made = []
    for lot, number in zip(*lots_joined(size, row)):
        product, places, part = list(product_by_swaps(size, row)), list(lot), []
        while len(places) > 2:
            most = max(places)
            target = product[most]
            if target != most:
                part.insert(0, (target, most))
                product = [most if place == target else target if place == most else place for place in product]
                number -= 1
            else:
                part[:0] = [(min(places), most)] * 2
                number -= 2
            places.remove(most)
        assert number >= 1
        made += [tuple(places)] * number + part
    return tuple(made)


def some_rows(number, chance):
    """Pairs of a size and a row, also with many equal swaps and with joined lots apart."""
    found = []
    for at in range(number):
        size = chance.randint(2, 8)
        told = swaps(size)
        if at % 3 == 0:
            told = chance.sample(told, min(len(told), chance.randint(1, 6)))
        row = [chance.choice(told) for _ in range(chance.randint(0, 12))]
        if at % 4 == 1:
            row = [swap for swap in row[:6] for _ in range(2)]
        found.append((size, tuple(row)))
    return found


def some_way(many, length, chance):
    return tuple([chance.choice((-1, 1)) * chance.randint(1, many - 1) for _ in range(length if many > 1 else 0)])


class TestBraids(Case):
    def test_examples(self):
        self.runs(EXAMPLES, dict(vars(module)))

    def test_constants(self):
        self.same((module.MAX_BRAIDED, module.MAX_WAY, module.MAX_JUDGED), (12, 4000, 20000))

    def test_steps(self):
        for size, row in [(4, row) for row in rows(4, 3)] + some_rows(100, random.Random(1)):
            for step in [sign * at for at in range(1, len(row)) for sign in (1, -1)]:
                found = stepped(size, row, step)
                self.same(found, by_step(row, step))
                self.assertEqual(told_of(size, found), told_of(size, row))
                self.same(stepped(size, found, -step), row)
                self.same(led_by(size, row, (step, -step)), row)
            for step in (0, len(row), -len(row), len(row) + 1, LONG):
                self.refuses(InvalidOperation, stepped, size, row, step)

    def test_all_steps_in_sequence(self):
        # [18.5]
        for size, row in some_rows(200, random.Random(2)):
            product = product_by_swaps(size, row)
            back = taken_back(product)
            wanted = tuple([tuple(sorted([back[low], back[high]])) for low, high in row])
            self.same(led_by(size, row, tuple(range(1, len(row))) * len(row)), wanted)

    def test_ways(self):
        chance = random.Random(3)
        for size, row in some_rows(80, chance):
            way = some_way(len(row), 25, chance)
            self.same(led_by(size, row, way), by_way(row, way))
            self.same(led_by(size, row, ()), row)
        great = some_way(12, 20000, chance)
        row = tuple([chance.choice(swaps(8)) for _ in range(12)])
        found = by_way(row, great)
        self.same(led_by(8, row, great), found)
        self.assertIs(is_braid_way(8, row, found, great), True)
        self.assertIs(is_braid_way(8, row, found, great + (1, -1)), False)
        self.assertIs(is_braid_way(8, row, by_step(found, 1), great[:-1] + great[-1:]), found == by_step(found, 1))
        self.refuses(InvalidWay, led_by, 8, row, great + (1,))

    def test_joined_lots_and_first_rows(self):
        told = [(size, row) for size, many in ((1, 0), (2, 3), (3, 4), (4, 4), (5, 3)) for row in rows(size, many)]
        for size, row in told + some_rows(1500, random.Random(4)):
            joined, numbers = lots_joined(size, row)
            self.same((joined_lots(size, row), numbers_of(size, row)), (joined, numbers))
            first = first_row(size, row)
            self.same(first, first_by_rule(size, row))
            self.assertEqual(told_of(size, first), told_of(size, row))
            self.same(first_row(size, first), first)
        self.same([first_row(1, ()), joined_lots(8, ()), numbers_of(8, ())], [(), (), ()])

    def test_all_braid_lots(self):
        # [18.3], [18.4]: equal in all three, equal first rows and ways are the same.
        for size, many in ((1, 0), (2, 0), (2, 1), (2, 3), (3, 1), (3, 2), (3, 3), (3, 4), (3, 5), (4, 2), (4, 3), (4, 4), (5, 2), (5, 3), (6, 2)):
            found = braid_lots(size, many)
            self.same(braid_lots_number(size, many), len(found))
            self.assertEqual(len({told_of(size, lot[0]) for lot in found}), len(found))
            self.assertEqual(len({first_row(size, lot[0]) for lot in found}), len(found))
            for lot in found:
                self.assertEqual(len({told_of(size, row) for row in lot}), 1)
                self.assertIn(first_row(size, lot[-1]), lot)
                self.same(braid_lot(size, lot[len(lot) // 2]), tuple(lot))

    def test_numbers_of_braid_lots(self):
        self.same([braid_lots_number(1, many) for many in (0, 1, 12)], [1, 0, 0])
        self.same([braid_lots_number(2, many) for many in (0, 1, 12)], [1, 1, 1])
        # By first rows.
        for size, many in ((3, 7), (4, 5), (5, 4), (6, 3), (8, 2)):
            self.same(braid_lots_number(size, many), len({first_by_rule(size, row) for row in rows(size, many)}))

    def test_braid_lots_of_rows_that_join_all_places(self):
        # As many as linked rows from the idle move to a told move, whose kind tells them.
        for size, many in ((2, 4), (3, 4), (3, 5), (4, 4), (4, 5), (5, 4)):
            for lot in lots(size):
                number = linked_number((1,) * size, lot, many)
                # Multiplied by d! for the numbered ones, and by the renamings of the lot; divided by d! as [0.13] says.
                wanted = number[0] // (number[1] * renamings(lot) * class_size(lot))
                for move in moves_of(lot)[:1]:
                    linked = [row for row in rows(size, many)
                              if product_by_swaps(size, row) == move and lots_joined(size, row)[0] == (tuple(range(size)),)]
                    self.assertEqual(len(linked), wanted)
                    if linked:
                        self.same(braid_lot(size, linked[-1]), tuple(sorted(linked)))

    def test_partings(self):
        told = (
            (4, ((0, 1),), ((0, 2),), "product"), (4, ((0, 1),), (), "product"), (3, ROW, ROW[::-1], None),
            (4, ((0, 1), (0, 1)), ((2, 3), (2, 3)), "lots"), (4, ((0, 1), (0, 1)), (), "lots"),
            (4, ((0, 1), (0, 1)), ((0, 1),) * 4, "numbers"), (2, ((0, 1),), ((0, 1),) * 3, "numbers"),
            (4, ((0, 1), (0, 1), (0, 1), (2, 3)), ((0, 1), (2, 3), (2, 3), (2, 3)), "numbers"),
            # Unlike in the lots and in the numbers, in all three, and in none.
            (4, ((0, 1),) * 4, ((2, 3),) * 2, "lots"), (4, ((0, 1),) * 3, ((2, 3),) * 2, "product"), (1, (), (), None), (8, (), (), None),
        )
        for size, one, other, word in told:
            for here, there in ((one, other), (other, one)):
                self.same(parting(size, here, there), word)
                self.assertIs(are_braided(size, here, there), word is None)
                self.assertIs(braid_way(size, here, there) is None, word is not None)
        for size, many in ((3, 3), (4, 2)):
            for one in rows(size, many):
                for other in rows(size, many):
                    here, there = told_of(size, one), told_of(size, other)
                    words = [word for word, a, b in zip(("product", "lots", "numbers"), here, there) if a != b]
                    self.same(parting(size, one, other), words[0] if words else None)
                    self.assertIs(are_braided(size, one, other), here == there)

    def test_any_ways(self):
        for size, many in ((2, 3), (3, 3), (3, 4), (4, 3), (4, 4)):
            for lot in braid_lots(size, many)[::2]:
                for one in lot[::9]:
                    for other in lot[::7]:
                        self.leads(size, one, other)
        chance, longest = random.Random(5), 0
        for size, row in some_rows(1200, chance):
            other = by_way(row, some_way(len(row), 60, chance))
            longest = max(longest, self.leads(size, row, other))
            self.leads(size, row, first_by_rule(size, row))
        self.assertGreater(longest, 100)

    def test_ways_of_pairs(self):
        # Pairs of equal swaps along a path, and all pairs at one place, where the longest ways are to be gone.
        for size in range(2, 8):
            path = [(place, place + 1) for place in range(size - 1)]
            star = [(0, place) for place in range(1, size)]
            far = [(place, size - 1) for place in range(size - 1)]
            for order in (path, path[::-1], star, star[::-1], far, far[::-1]):
                row = tuple([swap for swap in order for _ in range(2)])
                row = (row[:1] * (12 - len(row)) + row)[:12]
                for other in (row[::-1], first_by_rule(size, row), row[2:] + row[:2]):
                    if told_of(size, row) == told_of(size, other):
                        self.leads(size, row, other)

    def leads(self, size, one, other):
        """There is a way from one row to the other one; its length."""
        way = braid_way(size, one, other)
        self.assertIsInstance(way, tuple)
        self.assertLessEqual(len(way), 4000)
        self.assertEqual(by_way(one, way), other)
        self.assertIs(is_braid_way(size, one, other, way), True)
        return len(way)

    def test_is_braid_way(self):
        turned = by_step(ROW, 1)
        ways = [way for length in range(5) for way in itertools.product((1, -1, 2, -2), repeat=length)]
        right = [way for way in ways if by_way(ROW, way) == turned]
        wrong = [way for way in ways if by_way(ROW, way) != turned]
        # Some of the values are ways; but (True,), which equals one of them, is none.
        others = [value for value in ANY_VALUES + NO_WAYS if repr(value) not in [repr(way) for way in right]]
        self.assertIn("(True,)", [repr(value) for value in others])
        self.judges(lambda value: is_braid_way(3, ROW, turned, value), right, wrong + others)
        self.judges(lambda value: is_braid_way(3, ROW, ROW, value), ((), (1, -1) * 10000), ((1, -1) * 10001, (1, -1, 0), [], None))
        self.judges(lambda value: is_braid_way(3, (), (), value), ((),), ((0,), (1,), (-1,), (True,), [], None))
        self.judges(lambda value: is_braid_way(3, ROW[:1], ROW[:1], value), ((),), ((0,), (1,), (-1,), (True,), [], None))
        self.judges(lambda value: is_braid_way(3, ROW[:1], ROW[:1] * 3, value), (), ((), (1,), (2,)))

    def test_errors_of_rows(self):
        for call in (joined_lots, numbers_of, first_row):
            self.refuses_in_order(call, (4, InvalidCount, NO_EIGHT), (((0, 1),) * 12, InvalidRow, NO_TWELVE))
        self.refuses_in_order(stepped, (4, InvalidCount, NO_EIGHT), (((0, 1), (2, 3), (0, 1)), InvalidRow, NO_TWELVE),
                              (-2, InvalidOperation, (0, 3, -3, 4, 12) + NO_INTEGERS))
        self.refuses_in_order(led_by, (4, InvalidCount, NO_EIGHT), (((0, 1), (2, 3), (0, 1)), InvalidRow, NO_TWELVE),
                              ((1, -2), InvalidWay, NO_WAYS))
        for row in ((), ((0, 1),)):
            for step in (0, 1, -1, True):
                self.refuses(InvalidOperation, stepped, 3, row, step)
                self.refuses(InvalidWay, led_by, 3, row, (step,))
            self.same(led_by(3, row, ()), row)
        for call in (are_braided, parting, braid_way, lambda size, one, other: is_braid_way(size, one, other, None)):
            self.refuses_in_order(call, (4, InvalidCount, NO_EIGHT), (((0, 1),) * 12, InvalidRow, NO_TWELVE),
                                  (((2, 3),) * 12, InvalidRow, NO_TWELVE))
        self.refuses(InvalidRow, first_row, 3, ((0, 3),))
        first_row(8, ((0, 7),) * 12)

    def test_twenty_thousand_rows(self):
        # 3 ** 9 is 19,683; 3 ** 10, 28 ** 3, 10 ** 5 and 15 ** 4 are above 20,000.
        lot = braid_lot(3, ROW * 3)
        self.assertEqual(len(lot), len([row for row in rows(3, 9) if told_of(3, row) == told_of(3, ROW * 3)]))
        self.assertEqual(list(lot), sorted(set(lot)))
        self.same(braid_lot(2, ((0, 1),) * 12), (((0, 1),) * 12,))
        self.same(braid_lots_number(3, 9), 6)
        self.same(len(braid_lot(8, ((0, 1), (1, 7)))), 3)
        for size, many in ((3, 10), (3, 12), (8, 4), (8, 3), (5, 5), (6, 4), (7, 4), (4, 6)):
            self.refuses(TooMany, braid_lot, size, ((0, 1),) * many, kept=(20000,))
            self.refuses(TooMany, braid_lots_number, size, many, kept=(20000,))
        self.refuses_in_order(braid_lot, (4, InvalidCount, NO_EIGHT), (((0, 1),) * 4, InvalidRow, NO_TWELVE))
        self.refuses_in_order(braid_lots_number, (2, InvalidCount, NO_EIGHT), (12, InvalidCount, (-1, 13) + NO_INTEGERS))
        self.refuses(InvalidCount, braid_lots_number, 8, 13, kept=(13,))
        self.refuses(InvalidRow, braid_lot, 8, ((0, 1),) * 13)

    def test_what_is_not_true(self):
        # Rows of three swaps of three places with one product, parted by moves of the kind (3,) instead: under
        # the same steps a row of rounds stays one of equal rounds, or of the opposite ones.
        kind = [move for move in every(4) if sorted([move[place] == place for place in range(4)]) == [False] * 3 + [True]]
        told = {}
        for row in itertools.product(kind, repeat=2):
            product = then(*row)
            told.setdefault(product, []).append(row)
        found = {product: orbits(rows_of) for product, rows_of in told.items()}
        self.assertGreater(max(found.values()), 1)
        # Equal swaps side by side, left out: another number of swaps.
        self.assertIs(are_braided(3, ROW + ((0, 1), (0, 1)), ROW), False)


def orbits(rows_of):
    """The number of lots of pairs of moves under steps: a, b becomes a, b, a undone, and a."""
    left, number = set(rows_of), 0
    while left:
        number += 1
        row = min(left)
        while row in left:
            left.remove(row)
            one, other = row
            row = (then(then(one, other), taken_back(one)), one)
    return number
