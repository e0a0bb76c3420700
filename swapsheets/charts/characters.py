"""Characters of diagrams at lots, by rims that are taken off and put on."""

from swapsheets.base.numbers import check_count, is_integer, is_number, pair_of, shared_multiple, weighed_sum
from swapsheets.errors import InvalidOperation, TooMany
from swapsheets.squares.lots import beads_for, check_lot, check_lots, check_sum, class_size, dimension, is_told_by_lots
from swapsheets.squares.lots import keepers, lots, rims, shifted_beads

MAX_CHARTED = 14


def character(shape, lot):
    """The character of a diagram at a lot."""
    check_lots(shape, lot)
    check_sum(shape, MAX_CHARTED)
    states, known = {shape: 1}, {}
    for member in lot:
        states = _led_on(states, member, rims, known)
    return states.get((), 0)


def central_number(shape, lot):
    """The class size of the lot times the character, divided by the dimension."""
    return character(shape, lot) * class_size(lot) // dimension(shape)


def character_row(shape):
    """The dict from all lots of the sum to the characters of a diagram."""
    check_lot(shape)
    check_sum(shape, MAX_CHARTED)
    ends = _ends_for_lots({shape: 1}, sum(shape), rims)
    return {lot: ends[lot].get((), 0) for lot in ends}


def character_column(lot):
    """The dict from all diagrams of the sum to the characters at a lot."""
    check_lot(lot)
    check_sum(lot, MAX_CHARTED)
    states, known = {(): 1}, {}
    for member in lot:
        states = _led_on(states, member, _rims_on, known)
    return {shape: states.get(shape, 0) for shape in lots(sum(lot))}


def character_products(one, other):
    """The dict from diagrams to the products other than 0 of their characters at two lots of one sum."""
    here, there = character_column(one), character_column(other)
    return {shape: here[shape] * there[shape] for shape in here if here[shape] * there[shape] != 0}


def central_numbers(lot):
    """The dict from all diagrams of the sum to their central numbers at a lot."""
    column, size = character_column(lot), class_size(lot)
    return {shape: size * column[shape] // dimension(shape) for shape in column}


def character_table(total):
    """For each diagram of a sum the tuple of its characters at all lots, all ascending."""
    check_count(total, 0, MAX_CHARTED)
    ends = _ends_for_lots({(): 1}, total, _rims_on)
    return tuple([tuple([ends[lot].get(shape, 0) for lot in ends]) for shape in lots(total)])


def _ends_for_lots(states, left, ways):
    """The ascending dict from all lots with a sum to the states behind rims of all members."""
    return {lot: ends for lot, ends in _ends_within(states, left, left, ways, {})}


def _ends_within(states, left, most, ways, known):
    """Pairs of a lot, with no member above the most, and the states behind rims of all members."""
    if left == 0:
        return [((), states)]
    found = []
    for first in range(1, min(left, most) + 1):
        behind = _led_on(states, first, ways, known)
        for rest, ends in _ends_within(behind, left - first, first, ways, known):
            found.append(((first,) + rest, ends))
    return found


def _led_on(states, length, ways, known):
    """The states, dicts from diagrams to integers, behind one rim more of the length.

    What the ways are for a diagram and a length is kept in `known`, as it comes up again and again.
    """
    found = {}
    for shape, number in states.items():
        if (shape, length) not in known:
            known[shape, length] = ways(shape, length)
        for lot, sign in known[shape, length]:
            found[lot] = found.get(lot, 0) + sign * number
    return found


def is_character_row(value):
    """Whether the value is the character row of some lot with a sum of at most 14."""
    if not _are_told_by_lots(value) or not all([is_integer(value[lot]) for lot in value]):
        return False
    order = lots(sum(list(value)[0]))
    return tuple([value[lot] for lot in order]) in character_table(sum(order[0]))


def rims_put(shape, length):
    """The ascending tuple of the pairs (lot, sign) for all ways to put on a rim of the length."""
    check_lot(shape)
    check_count(length, 1, MAX_CHARTED)
    if sum(shape) + length > MAX_CHARTED:
        raise TooMany(MAX_CHARTED)
    return _rims_on(shape, length)


def _rims_on(shape, length):
    # A rim can begin in the first row behind the diagram and go down as far as it is long.
    return shifted_beads(beads_for(shape, len(shape) + length), length)


def class_products(one, other):
    """For each lot the number of pairs of moves of both kinds that make a told move of its kind."""
    check_lots(one, other)
    check_sum(one, MAX_CHARTED)
    total = sum(one)
    order, table = lots(total), character_table(total)
    places = (order.index(one), order.index(other))
    sizes = [dimension(shape) for shape in order]
    shared = shared_multiple(sizes)
    factors = [row[places[0]] * row[places[1]] * (shared // size) for row, size in zip(table, sizes)]
    made = {}
    for at, lot in enumerate(order):
        whole = sum([factor * row[at] for factor, row in zip(factors, table)])
        # All moves are class size times keepers, so this is the division by d!.
        made[lot] = whole * class_size(one) // (shared * keepers(other))
    return made


def shares_of(values):
    """The shares that tell values."""
    order, pairs = _order_and_pairs(values)
    table = character_table(sum(order[0]))
    weighed = [(top, bottom * keepers(lot)) for lot, (top, bottom) in zip(order, pairs)]
    return {shape: weighed_sum(row, weighed) for shape, row in zip(order, table)}


def values_of(shares):
    """The values that shares tell."""
    order, pairs = _order_and_pairs(shares)
    table = character_table(sum(order[0]))
    return {lot: weighed_sum([row[at] for row in table], pairs) for at, lot in enumerate(order)}


def _order_and_pairs(value):
    """All lots of the sum, and what the dict has for each of them, as tops above bottoms."""
    if not _are_told_by_lots(value):
        raise InvalidOperation("no dict from all lots of one sum")
    if not all([is_number(value[lot]) for lot in value]):
        raise InvalidOperation("no dict to numbers")
    order = lots(sum(list(value)[0]))
    return order, [pair_of(value[lot]) for lot in order]


def _are_told_by_lots(value):
    """Whether the value is a dict whose keys are all lots of one sum up to 14."""
    if not is_told_by_lots(value) or not value:
        return False
    total = sum(list(value)[0])
    return total <= MAX_CHARTED and len(value) == len(lots(total))
