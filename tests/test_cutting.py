"""Stage 11: cutting and joining [11.1] to [11.8], and [0.13], [0.14] as far as they speak of sums of lots."""

import math
from fractions import Fraction

from support import ANY_VALUES, LONG, NO_INTEGERS, NO_SUMS, Case, pair
from test_lots import NO_LOTS
from test_walks import ways_tried

from swapsheets.charts.characters import character
from swapsheets.errors import InvalidCount, InvalidLot, InvalidOperation, TooMany
from swapsheets.linked.numbers import linked_number
from swapsheets.squares.lots import content_sum, keepers, lots, renamings
from swapsheets.strings import cutting as module
from swapsheets.strings.cutting import cut_apart, cut_joined, diagram_shares, diagram_sum, is_lots_sum, joined_up
from swapsheets.strings.cutting import linked_sums, lots_meeting, lots_pairing, lots_together, number_by_cutting, sums_added
from swapsheets.walking.walks import rows_number

EXAMPLES = """
>>> [cut_apart({(3,): 1}), joined_up({(2, 1): 1}), cut_joined({(2, 1): 1}, 1), cut_joined({(1, 1, 1): (1, 3)}, 4)]
[{(2, 1): (3, 1)}, {(3,): (2, 1)}, {(1, 1, 1): (1, 1), (3,): (2, 1)}, {(1, 1, 1): (9, 1), (3,): (18, 1)}]
>>> [diagram_sum((2, 1)), cut_joined(diagram_sum((3,)), 1), diagram_shares({(2, 1): 1}), lots_pairing({(2, 1): 3}, {(2, 1): (1, 4)})]
[{(1, 1, 1): (1, 3), (3,): (-1, 3)}, {(1, 1, 1): (1, 2), (2, 1): (3, 2), (3,): (1, 1)}, {(1, 1, 1): (-1, 1), (3,): (1, 1)}, (3, 2)]
>>> [number_by_cutting((1, 1, 1), (2, 1), 3), lots_meeting({(2,): 1}, {(2, 1): 1}), lots_together({(2,): 1}, {(2, 1): (1, 2)})]
[(9, 2), {(3, 2): (2, 1), (4, 1): (4, 1)}, {(2, 2, 1): (1, 2)}]
>>> linked_sums(3, 3)
({(1,): (1, 1)}, {(2,): (1, 2)}, {(1, 1): (1, 2), (3,): (1, 1)}, {(2,): (1, 2), (2, 1): (4, 1)})
"""
HIGH = ((15,), (1,) * 15, (24,), (1,) * 24)
# No sums of lots here, also if entries may be integers.
NO_LOTS_SUMS = NO_SUMS + (
    {(15,): (1, 1)}, {(1,) * 15: (1, 1)}, {(24,): (1, 1)}, {(1,): LONG}, {(1,): -LONG}, {(1,): 10 ** 99}, {(2,): 1, (1, 1): 0},
    {(2,): 1, (1, 1): True}, {(2,): 1, (1, 1): (2, 2)}, {(2,): 1, (1,): 1}, {(): 1, (1,): 1},
)
# Sums of lots: of one lot each, and of many with fractions and integers of either sign.
SUMS = [{lot: 1} for total in range(6) for lot in lots(total)] + [
    {}, {(): (-2, 3)}, {(2, 1): (1, 2), (3,): -4}, {(2, 2): 5, (1, 1, 1, 1): (-1, 6), (4,): (7, 3)},
    {lot: (-1) ** at * (at + 1) for at, lot in enumerate(lots(5))},
]


def plain(told):
    """The sum of lots with a Fraction for each entry."""
    return {lot: Fraction(*entry) if isinstance(entry, tuple) else Fraction(entry) for lot, entry in told.items()}


def fractions_of(told):
    """The sum of lots as it is returned."""
    return {lot: pair(told[lot]) for lot in sorted(told) if told[lot]}


def lot_with(members):
    return tuple(sorted(members, reverse=True))


def times(told, factor):
    return {lot: entry * factor for lot, entry in told.items()}


def all_added(parts):
    found = {}
    for part in parts:
        for lot, entry in part.items():
            found[lot] = found.get(lot, 0) + entry
    return found


def cut_by_indices(lot):
    found = {}
    for at, member in enumerate(lot):
        for first in range(1, member):
            target = lot_with(lot[:at] + lot[at + 1:] + (first, member - first))
            found[target] = found.get(target, 0) + Fraction(member, 2)
    return found


def joined_by_indices(lot):
    found = {}
    for at, one in enumerate(lot):
        for later in range(at + 1, len(lot)):
            target = lot_with([member for place, member in enumerate(lot) if place not in (at, later)] + [one + lot[later]])
            found[target] = found.get(target, 0) + one * lot[later]
    return found


def met_by_indices(one, other):
    found = {}
    for at, here in enumerate(one):
        for by, there in enumerate(other):
            target = lot_with(one[:at] + one[at + 1:] + other[:by] + other[by + 1:] + (here + there,))
            found[target] = found.get(target, 0) + here * there
    return found


def changed(told, change):
    return all_added([times(change(lot), entry) for lot, entry in plain(told).items()])


def both_changed(told):
    return all_added([changed(told, cut_by_indices), changed(told, joined_by_indices)])


def met(one, other, meet):
    return all_added([times(meet(here, there), entry * number) for here, entry in plain(one).items()
                      for there, number in plain(other).items()])


class TestCutting(Case):
    def test_examples(self):
        self.runs(EXAMPLES, dict(vars(module)))

    def test_constants(self):
        self.same((module.MAX_CUT, module.MOST_CUTS, module.MAX_LINKED, module.MOST_LINKED), (14, 200, 8, 20))

    def test_is_lots_sum(self):
        right = [{}, {(): (1, 1)}, {(14,): (-1, 3)}, {(1,) * 14: (1, LONG)}, {(2, 1): (1, 2), (3,): (5, 1)}]
        right += [fractions_of(plain(told)) for told in SUMS]
        with_integers = [{(2, 1): 1}, {(): -1}, {(2, 1): (1, 2), (3,): 1}, {(1,): LONG - 1}]
        self.judges(is_lots_sum, right, NO_LOTS_SUMS + tuple(with_integers))
        for value in ANY_VALUES:
            self.assertIs(is_lots_sum(value), value == {} and isinstance(value, dict))

    def test_cutting_and_joining_by_indices(self):
        for told in SUMS:
            kept = dict(told)
            self.same(cut_apart(told), fractions_of(changed(told, cut_by_indices)))
            self.same(joined_up(told), fractions_of(changed(told, joined_by_indices)))
            found = plain(told)
            for many in range(5):
                self.same(cut_joined(told, many), fractions_of(found))
                found = both_changed(found)
            self.same(told, kept)

    def test_cutting_and_joining_are_swaps(self):
        for total in range(1, 7):
            for lot in lots(total):
                self.same(cut_joined({lot: 1}, 1), {target: (ways, 1) for target, ways in ways_tried(lot).items()})

    def test_cutting_and_joining_at_their_edges(self):
        for call in (cut_apart, joined_up):
            self.same([call({}), call({(): 1}), call({(1,): (1, 2)})], [{}, {}, {}])
        self.same([cut_joined({}, 200), cut_joined({(): 1}, 0), cut_joined({(): 1}, 1)], [{}, {(): (1, 1)}, {}])
        self.same(cut_joined({(2,): (1, LONG), (1, 1): LONG - 1}, 0), {(1, 1): (LONG - 1, 1), (2,): (1, LONG)})
        self.same(cut_joined({(2,): 1, (1, 1): -1}, 200), {(1, 1): (-1, 1), (2,): (1, 1)})
        self.same(cut_joined({(3,): 1, (1, 1, 1): -1}, 2), fractions_of(both_changed(both_changed({(3,): 1, (1, 1, 1): -1}))))
        whole = {lot: 1 for lot in lots(14)}
        found = cut_joined(whole, 200)
        self.same(list(found), sorted(found))
        self.assertTrue(is_lots_sum(found))
        # What each lot keeps by itself: all swaps lead somewhere.
        self.assertEqual(sum([Fraction(*entry) for entry in cut_joined({(7, 7): 1}, 200).values()]), 91 ** 200)
        # An object of its own is returned.
        told = {(2, 1): (1, 2)}
        self.assertIsNot(cut_joined(told, 0), told)
        # What comes can be passed on, however long its integers are.
        self.same(cut_joined(cut_joined(whole, 100), 100), found)

    def test_errors_of_cutting(self):
        for call in (cut_apart, joined_up, diagram_shares):
            self.refuses_in_order(call, ({(2, 1): 1, (3,): (1, 2)}, InvalidOperation, NO_LOTS_SUMS))
        self.refuses_in_order(cut_joined, ({(2, 1): 1, (3,): (1, 2)}, InvalidOperation, NO_LOTS_SUMS),
                              (200, InvalidCount, (-1, 201) + NO_INTEGERS))

    def test_sums_added(self):
        for one in SUMS:
            for other in SUMS:
                sums = [sum(lot) for told in (one, other) for lot in list(told)[:1]]
                if len(set(sums)) > 1:
                    self.refuses(InvalidOperation, sums_added, one, other)
                    self.refuses(InvalidOperation, lots_pairing, one, other)
                    continue
                kept = (dict(one), dict(other))
                self.same(sums_added(one, other), fractions_of(all_added([plain(one), plain(other)])))
                here, there = plain(one), plain(other)
                wanted = sum([keepers(lot) * here[lot] * there[lot] for lot in here if lot in there])
                self.same(lots_pairing(one, other), pair(wanted))
                self.same((one, other), kept)
        self.same(sums_added({(1,): (1, 2)}, {(1,): (-1, 2)}), {})
        self.same(sums_added({}, {}), {})
        self.same(sums_added({(14,): LONG - 1}, {(14,): LONG - 1}), {(14,): (2 * LONG - 2, 1)})
        self.same([lots_pairing({}, {}), lots_pairing({}, {(2,): 1}), lots_pairing({(2,): 1}, {(1, 1): 1})], [(0, 1)] * 3)

    def test_errors_of_sums_added(self):
        good = {(2, 1): 1, (3,): (1, 2)}
        for call in (sums_added, lots_pairing):
            self.refuses_in_order(call, (good, InvalidOperation, NO_LOTS_SUMS), (good, InvalidOperation, NO_LOTS_SUMS))
            self.refuses(InvalidOperation, call, {(): 1}, {(1,): 1})
            self.refuses(InvalidOperation, call, {(14,): 1}, {(13,): 1})

    def test_the_pairing_of_cutting_and_joining(self):
        for total in (3, 4, 5):
            one = {lot: (at + 1, 7) for at, lot in enumerate(lots(total)) if (at + 1) % 7}
            other = {lot: 5 - at for at, lot in enumerate(lots(total)) if at != 5}
            self.same(lots_pairing(cut_apart(one), other), lots_pairing(one, joined_up(other)))
            self.same(lots_pairing(joined_up(one), other), lots_pairing(one, cut_apart(other)))
            self.same(lots_pairing(cut_joined(one, 3), other), lots_pairing(one, cut_joined(other, 3)))

    def test_products_and_meetings(self):
        for one in SUMS:
            for other in SUMS:
                kept = (dict(one), dict(other))
                together = met(one, other, lambda here, there: {lot_with(here + there): 1})
                self.same(lots_together(one, other), fractions_of(together))
                self.same(lots_meeting(one, other), fractions_of(met(one, other, met_by_indices)))
                self.same((one, other), kept)
        self.same([lots_together({}, {(14,): 1}), lots_meeting({(14,): 1}, {})], [{}, {}])
        self.same(lots_together({(): (1, 2)}, {(14,): 1}), {(14,): (1, 2)})
        self.same(lots_meeting({(): (1, 2)}, {(14,): 1}), {})
        self.same(lots_meeting({(7,): LONG - 1}, {(7,): 1}), {(14,): (49 * (LONG - 1), 1)})
        self.same(lots_together({(2,): 1, (1, 1): 1}, {(2,): 1, (1, 1): -1}), {(1, 1, 1, 1): (-1, 1), (2, 2): (1, 1)})

    def test_what_comes_of_a_product(self):
        for one in SUMS[6:22:3]:
            for other in SUMS[4:18:3]:
                whole = cut_joined(lots_together(one, other), 1)
                parts = [lots_together(cut_joined(one, 1), other), lots_together(one, cut_joined(other, 1)), lots_meeting(one, other)]
                self.same(whole, fractions_of(all_added([plain(part) for part in parts])))

    def test_errors_of_products_and_meetings(self):
        good = {(2, 1): 1, (3,): (1, 2)}
        for call in (lots_together, lots_meeting):
            self.refuses_in_order(call, (good, InvalidOperation, NO_LOTS_SUMS), (good, InvalidOperation, NO_LOTS_SUMS))
            for one, other in (({(8,): 1}, {(7,): 1}), ({(14,): 1}, {(1,): 1}), ({(14,): 1}, {(14,): (1, 2)})):
                self.refuses(TooMany, call, one, other, kept=(14,))
            call({(7,): 1}, {(7,): 1})
            call({(14,): 1}, {(): 1})

    def test_sums_of_diagrams(self):
        for total in range(7):
            for shape in lots(total):
                wanted = {lot: Fraction(character(shape, lot), keepers(lot)) for lot in lots(total)}
                found = diagram_sum(shape)
                self.same(found, fractions_of(wanted))
                self.same(cut_joined(found, 1), fractions_of(times(wanted, content_sum(shape))))
                for other in lots(total):
                    self.same(lots_pairing(found, diagram_sum(other)), (int(shape == other), 1))
        self.same(diagram_sum(()), {(): (1, 1)})
        self.assertTrue(is_lots_sum(diagram_sum((5, 4, 3, 2))))
        self.refuses_in_order(diagram_sum, ((14,), InvalidLot, NO_LOTS))
        for shape in HIGH:
            self.refuses(TooMany, diagram_sum, shape, kept=(14,))

    def test_shares_of_diagrams(self):
        for told in SUMS + [{lot: at + 1 for at, lot in enumerate(lots(9))}]:
            shares = diagram_shares(told)
            total = sum(list(told)[0]) if told else 0
            wanted = {shape: Fraction(*lots_pairing(told, diagram_sum(shape))) for shape in lots(total)}
            self.same(shares, fractions_of(wanted))
            back = all_added([times(plain(diagram_sum(shape)), Fraction(*share)) for shape, share in shares.items()])
            self.same(fractions_of(back), fractions_of(plain(told)))
        self.same([diagram_shares({}), diagram_shares({(): (-2, 3)})], [{}, {(): (-2, 3)}])
        found = diagram_shares({(14,): (1, 3)})
        self.same(found, {shape: (character(shape, (14,)), 3) for shape in lots(14) if character(shape, (14,))})

    def test_numbers_by_cutting(self):
        for total in range(6):
            for one in lots(total):
                for other in lots(total):
                    for many in range(5):
                        number = number_by_cutting(one, other, many)
                        entry = cut_joined({one: 1}, many).get(other, (0, 1))
                        self.same(number, pair(Fraction(*entry) / keepers(one)))
                        self.same(number, rows_number(one, other, many))
        self.same([number_by_cutting((), (), many) for many in (0, 1, 200)], [(1, 1), (0, 1), (0, 1)])
        self.same(number_by_cutting((14,), (1,) * 14, 13), pair(Fraction(14 ** 12 * math.factorial(13), math.factorial(14))))

    def test_errors_of_numbers_by_cutting(self):
        self.refuses_in_order(number_by_cutting, ((2, 1), InvalidLot, NO_LOTS), ((3,), InvalidLot, NO_LOTS),
                              (200, InvalidCount, (-1, 201) + NO_INTEGERS))
        self.refuses(InvalidOperation, number_by_cutting, (2, 1), (2, 2), -1)
        for lot in HIGH:
            self.refuses(TooMany, number_by_cutting, lot, lot, 200, kept=(14,))
            self.refuses(InvalidCount, number_by_cutting, lot, lot, 201, kept=(201,))

    def test_linked_sums_by_their_rule(self):
        for total in (1, 2, 5):
            wanted = [{(1,): Fraction(1)}]
            for many in range(8):
                parts = [both_changed(wanted[-1])]
                for here in range(many + 1):
                    meeting = met(wanted[here], wanted[many - here], met_by_indices)
                    parts.append(times(meeting, Fraction(math.comb(many, here), 2)))
                added = all_added(parts)
                wanted.append({lot: added[lot] for lot in added if sum(lot) <= total})
            self.same(linked_sums(total, 8), tuple([fractions_of(told) for told in wanted]))

    def test_linked_sums_tell_connected_numbers(self):
        for total, most in ((5, 10), (7, 6)):
            for many, told in enumerate(linked_sums(total, most)):
                self.same(list(told), sorted(told))
                wanted = {}
                for size in range(1, total + 1):
                    for lot in lots(size):
                        if size + len(lot) <= 10:
                            linked = Fraction(*linked_number((1,) * size, lot, many))
                            wanted[lot] = linked / math.factorial(size) / renamings(lot)
                here = {lot: told[lot] for lot in told if lot in wanted}
                self.same(here, fractions_of(wanted))

    def test_linked_sums_at_their_bounds(self):
        found = linked_sums(8, 20)
        self.same(len(found), 21)
        self.same(found[:4], linked_sums(8, 3))
        for total in range(1, 8):
            wanted = tuple([{lot: told[lot] for lot in told if sum(lot) <= total} for told in found])
            self.same(linked_sums(total, 20), wanted)
        self.same(linked_sums(1, 2), ({(1,): (1, 1)}, {}, {}))
        self.same(linked_sums(8, 0), ({(1,): (1, 1)},))
        self.refuses_in_order(linked_sums, (8, InvalidCount, (0, 9, -1) + NO_INTEGERS), (20, InvalidCount, (-1, 21) + NO_INTEGERS))

    def test_what_is_not_true(self):
        # A sum of the diagram with the content sum 1 stays.
        told = diagram_sum((2,))
        self.same(cut_joined(told, 1), told)
        self.assertNotEqual(joined_up(cut_apart({(2, 1): 1})), cut_apart(joined_up({(2, 1): 1})))
