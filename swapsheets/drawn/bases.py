"""Bases: numbers of rows of turns, and of moves of told kinds behind them, that leave each place."""

from math import comb

from swapsheets.base.numbers import check_count, factorial, reduced, weighed_sum, whole_power
from swapsheets.charts.characters import central_numbers
from swapsheets.errors import InvalidLot, TooMany
from swapsheets.squares.lots import hooks_product, is_lot, lot_without, lots, lots_within

MAX_TOTAL = 14
MAX_JOINED = 8
MAX_KINDS = 6
MAX_GENUS = 10


def base_number(genus, total, *kinds):
    """The number of rows of turns and of moves of these kinds that leave each place, divided by d!: a fraction."""
    _check_base(genus, total, kinds)
    return reduced(_rows_with(_shape_factors(genus, total), kinds, {}), factorial(total))


def joined_base_number(genus, total, *kinds):
    """The number of those rows alone whose moves join all places, divided by d!: a fraction."""
    _check_base(genus, total, kinds)
    if total > MAX_JOINED:
        raise TooMany(MAX_JOINED)
    whole, joined, known = {}, {}, {}
    for size in range(1, total + 1):
        factors = _shape_factors(genus, size)
        for told in _parts_of(kinds, size):
            whole[size, told] = _rows_with(factors, told, known)
            joined[size, told] = whole[size, told] - _rows_in_pieces(size, told, whole, joined)
    return reduced(joined[total, kinds], factorial(total))


def _check_base(genus, total, kinds):
    check_count(genus, 0, MAX_GENUS)
    check_count(total, 1, MAX_TOTAL)
    for lot in kinds:
        if not is_lot(lot) or sum(lot) != total:
            raise InvalidLot("no lot of so many places")
    if len(kinds) > MAX_KINDS:
        raise TooMany(MAX_KINDS)


def _shape_factors(genus, total):
    """For each diagram of a sum what stands in the number of rows [16.6], times d!, whatever the kinds."""
    whole, found = factorial(total), []
    for shape in lots(total):
        hooks = hooks_product(shape)
        if genus == 0:
            found.append(reduced(whole, hooks * hooks))
        else:
            found.append((whole * whole_power(hooks, 2 * genus - 2), 1))
    return found


def _rows_with(factors, kinds, known):
    """The number of all rows, by the factors of all diagrams; the central numbers of lots are kept in `known`."""
    numbers = [1] * len(factors)
    for lot in kinds:
        if lot not in known:
            known[lot] = list(central_numbers(lot).values())
        numbers = [number * central for number, central in zip(numbers, known[lot])]
    return weighed_sum(numbers, factors)[0]


def _parts_of(kinds, size):
    """All tuples of lots with a sum, each one of some of the members of the kind at its place."""
    found = [()]
    for lot in kinds:
        within = [part for part in lots_within(lot) if sum(part) == size]
        found = [begun + (part,) for begun in found for part in within]
    return found


def _rows_in_pieces(size, kinds, whole, joined):
    """The number of rows that join fewer places with the place 0, by those of all lesser sizes."""
    total = 0
    for less in range(1, size):
        ways = comb(size - 1, less - 1)
        for here in _parts_of(kinds, less):
            rest = tuple([lot_without(lot, part) for lot, part in zip(kinds, here)])
            total = total + ways * joined[less, here] * whole[size - less, rest]
    return total
