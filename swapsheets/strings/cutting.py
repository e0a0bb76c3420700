"""Cutting and joining: sums of lots whose members are parted and put together."""

from math import comb

from swapsheets.base.numbers import check_count, factorial, is_fraction, is_integer, pair_of, product_of, reduced
from swapsheets.base.numbers import shared_multiple, sum_of, weighed_sum
from swapsheets.charts.characters import character_row, shares_of
from swapsheets.errors import InvalidOperation, TooMany
from swapsheets.squares.lots import check_lot, check_lots, check_sum, is_told_by_lots, keepers, lot_without, lots
from swapsheets.squares.lots import sorted_lot
from swapsheets.walking.walks import joining_ways, led_on, parting_ways, swap_ways

MAX_CUT = 14
MOST_CUTS = 200
MAX_LINKED = 8
MOST_LINKED = 20


def is_lots_sum(value):
    """Whether the value is a sum of lots, a dict to fractions other than 0."""
    return _are_lots(value) and all([_is_entry(entry) for entry in value.values()])


def _are_lots(value):
    return is_told_by_lots(value) and _total(value) <= MAX_CUT


def _total(lots_sum):
    """The sum of the lots, 0 if there are none."""
    return max([sum(lot) for lot in lots_sum], default=0)


def _is_entry(value):
    return is_fraction(value) and value[0] != 0


def _pairs_of(lots_sum):
    """The sum of lots with fractions alone; raises the error of what is none."""
    if not _are_lots(lots_sum):
        raise InvalidOperation("no dict from lots with one sum of at most 14")
    if not all([_is_entry(entry) or is_integer(entry) and entry != 0 for entry in lots_sum.values()]):
        raise InvalidOperation("an entry is no number other than 0")
    return {lot: pair_of(entry) for lot, entry in lots_sum.items()}


def _without_zeros(entries):
    """The entries other than 0, fractions, their lots ascending."""
    return {lot: entries[lot] for lot in sorted(list(entries)) if entries[lot][0] != 0}


def cut_apart(lots_sum):
    """What comes by cutting a sum of lots."""
    return _changed(_pairs_of(lots_sum), parting_ways, 1)


def joined_up(lots_sum):
    """What comes by joining a sum of lots."""
    return _changed(_pairs_of(lots_sum), joining_ways, 1)


def cut_joined(lots_sum, many):
    """What comes by cutting and joining a sum of lots so many times."""
    pairs = _pairs_of(lots_sum)
    check_count(many, 0, MOST_CUTS)
    return _changed(pairs, swap_ways, many)


def _changed(pairs, ways, many):
    """What comes of a sum of lots by ways of its lots, taken so many times."""
    # The ways lead to integers, so one bottom does for all times.
    bottom = shared_multiple([low for _, low in pairs.values()])
    tops, known = {lot: top * (bottom // low) for lot, (top, low) in pairs.items()}, {}
    for _ in range(many):
        tops = led_on(tops, ways, known)
    return _without_zeros({lot: reduced(top, bottom) for lot, top in tops.items()})


def sums_added(one, other):
    """The sum of two sums of lots."""
    here, there = _both_pairs(one, other)
    made = {lot: here[lot] for lot in here}
    for lot, pair in there.items():
        made[lot] = sum_of(made.get(lot, (0, 1)), pair)
    return _without_zeros(made)


def lots_pairing(one, other):
    """The sum of the products of both entries, each times z of its lot: a fraction."""
    here, there = _both_pairs(one, other)
    shared = [lot for lot in here if lot in there]
    return weighed_sum([keepers(lot) for lot in shared], [product_of(here[lot], there[lot]) for lot in shared])


def _both_pairs(one, other):
    """Two sums of lots with fractions alone; raises the error of what is none, or of unlike sums."""
    here, there = _pairs_of(one), _pairs_of(other)
    if here and there and _total(here) != _total(there):
        raise InvalidOperation("the lots have unlike sums")
    return here, there


def lots_together(one, other):
    """The product of two sums of lots."""
    return _taken_together(one, other, _product_of_lots)


def lots_meeting(one, other):
    """The meeting of two sums of lots."""
    return _taken_together(one, other, _meeting_of_lots)


def _taken_together(one, other, ways):
    """What two sums of lots make, lot by lot, by the ways of two lots."""
    here, there = _pairs_of(one), _pairs_of(other)
    if _total(here) + _total(there) > MAX_CUT:
        raise TooMany(MAX_CUT)
    made = {}
    for first, entry in here.items():
        for second, number in there.items():
            shared = product_of(entry, number)
            for lot, factor in ways(first, second).items():
                made[lot] = sum_of(made.get(lot, (0, 1)), product_of(shared, (factor, 1)))
    return _without_zeros(made)


def _product_of_lots(one, other):
    return {sorted_lot(one + other): 1}


def _meeting_of_lots(one, other):
    """The dict from all lots that come if a member of either lot is joined to one of the other lot."""
    found = {}
    for here in one:
        for there in other:
            lot = sorted_lot(lot_without(one, (here,)) + lot_without(other, (there,)) + (here + there,))
            found[lot] = found.get(lot, 0) + here * there
    return found


def diagram_sum(shape):
    """The sum of lots that cutting and joining multiplies by the content sum of a diagram."""
    check_lot(shape)
    check_sum(shape, MAX_CUT)
    row = character_row(shape)
    return {lot: reduced(row[lot], keepers(lot)) for lot in row if row[lot] != 0}


def diagram_shares(lots_sum):
    """The dict from diagrams to the pairings other than 0 of a sum of lots with their sums."""
    pairs = _pairs_of(lots_sum)
    if not pairs:
        return {}
    values = {lot: product_of(pairs.get(lot, (0, 1)), (keepers(lot), 1)) for lot in lots(_total(pairs))}
    return _without_zeros(shares_of(values))


def number_by_cutting(one, other, many):
    """The number of rows of so many swaps between moves of two kinds, divided by d!: a fraction."""
    check_lots(one, other)
    check_count(many, 0, MOST_CUTS)
    check_sum(one, MAX_CUT)
    found = _changed({one: (1, keepers(one))}, swap_ways, many)
    return found.get(other, (0, 1))


def linked_sums(total, many):
    """The tuple of the sums of lots that tell connected numbers of ones and a lot [11.7]."""
    check_count(total, 1, MAX_LINKED)
    check_count(many, 0, MOST_LINKED)
    # Each entry is multiplied by the product of 1 to its sum, which makes it an integer: the number
    # of rows of swaps that join all places, with a product of the kind.
    rows, known = [{(1,): 1}], {}
    for _ in range(many):
        rows.append(_one_swap_more(rows, total, known))
    return tuple([_with_sizes_out(row) for row in rows])


def _one_swap_more(rows, total, known):
    """The sum of lots behind the last one of the rows [11.7], each entry multiplied as they are."""
    made, last = led_on(rows[-1], swap_ways, known), len(rows) - 1
    doubled = {}
    for many in range(last + 1):
        # Entries are multiplied by the ways to share the places, too.
        _add_meetings(doubled, rows[many], rows[last - many], comb(last, many), total)
    for lot, number in doubled.items():
        made[lot] = made.get(lot, 0) + number // 2
    return made


def _add_meetings(doubled, here, there, factor, total):
    """Add so many times the meeting of two sums of lots, as far as lots have a sum of at most the total."""
    for first, entry in here.items():
        for second, number in there.items():
            places = sum(first) + sum(second)
            if places <= total:
                shared = factor * entry * number * comb(places, sum(first))
                for lot, ways in _meeting_of_lots(first, second).items():
                    doubled[lot] = doubled.get(lot, 0) + shared * ways


def _with_sizes_out(row):
    return _without_zeros({lot: reduced(number, factorial(sum(lot))) for lot, number in row.items()})
