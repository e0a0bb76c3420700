"""Least rows of moves: rows of genus 0 with a told product, and those of told kinds, the cacti."""

from math import comb

from swapsheets.base.numbers import check_count, factorial, reduced, whole_power
from swapsheets.errors import InvalidOperation, TooMany
from swapsheets.kindred.kinds import class_moves
from swapsheets.moving.moves import all_moves, are_moves, check_move, idle_move, kind_of, least_number, places_of_moves
from swapsheets.moving.moves import renamed, undone
from swapsheets.squares.lots import check_filled_lot, check_sum, is_lot, renamings

MAX_FACTORS = 8
MAX_CACTI = 20000
_MOST_LISTED = 7
_LEAST_FACTORS = 2


def genus_of_row(moves):
    """The genus of a row of moves, None if it does not join all places."""
    if not are_moves(moves, MAX_FACTORS):
        raise InvalidOperation("no tuple of one to eight moves of one number of places")
    return _genus(moves)


def _genus(row):
    if len(places_of_moves(row)) > 1:
        return None
    more = sum([least_number(move) for move in row]) - _least_swaps(_product(row))
    return more // 2


def _least_swaps(move):
    """The least swaps of a row that joins all places and has this product."""
    return len(move) - 2 + len(kind_of(move))


def _product(row):
    made = idle_move(len(row[0]))
    for move in row:
        made = _then(made, move)
    return made


def _then(one, other):
    return tuple([other[place] for place in one])


def _round(size):
    return tuple(range(1, size)) + (0,)


def _check_kinds(lots):
    """Raise the errors of values that are no tuple of one to eight lots, or not of one sum above 0."""
    if not isinstance(lots, tuple) or not 1 <= len(lots) <= MAX_FACTORS or not all([is_lot(lot) for lot in lots]):
        raise InvalidOperation("no tuple of one to eight lots")
    sums = [sum(lot) for lot in lots]
    if min(sums) != max(sums) or sums[0] == 0:
        raise InvalidOperation("the lots do not have one sum of at least 1")


def cactus_number(lots):
    """The number of cacti of the kinds."""
    _check_kinds(lots)
    size = sum(lots[0])
    if sum([size - len(lot) for lot in lots]) != size - 1:
        return 0
    top, bottom = whole_power(size, len(lots) - 1), 1
    for lot in lots:
        top = top * factorial(len(lot) - 1)
        bottom = bottom * renamings(lot)
    return top // bottom


def cacti(lots):
    """All cacti of the kinds, ascending."""
    number = cactus_number(lots)
    check_sum(lots[0], _MOST_LISTED)
    if number > MAX_CACTI:
        raise TooMany(MAX_CACTI)
    start, steps = _round(sum(lots[0])), [_with_least_numbers(list(class_moves(lot))) for lot in lots]
    least = least_number(start)
    yield from _rows_within(start, steps, least)


def _with_least_numbers(told):
    return {move: least_number(move) for move in told}


def _rows_within(product, steps, least):
    """All rows with a product and so many least swaps, ascending, each move out of the dict at its place.

    The dicts have their moves ascending, with their least numbers.
    """
    waiting, known = [((), product, least)], {}
    while waiting:
        row, left, swaps = waiting.pop()
        if len(row) == len(steps):
            yield row
        elif len(row) + 1 == len(steps):
            # All that is left is the last move.
            if steps[-1].get(left, -1) == swaps:
                waiting.append((row + (left,), (), 0))
        else:
            # The least move is put last, as it is to be taken first.
            for step, rest, fewer in _next_steps(steps, len(row), left, swaps, known)[::-1]:
                waiting.append((row + (step,), rest, fewer))


def _next_steps(steps, at, left, swaps, known):
    """All moves that can come next, with what is left behind each of them, and the least swaps for it.

    They are kept in `known`, as the same is left again and again.
    """
    if (at, left, swaps) not in known:
        found = []
        for step, number in steps[at].items():
            rest = _then(undone(step), left)
            if number + least_number(rest) <= swaps:
                found.append((step, rest, swaps - number))
        known[at, left, swaps] = found
    return known[at, left, swaps]


def is_cactus(lots, value):
    """Whether the value is a cactus of the kinds."""
    _check_kinds(lots)
    if not are_moves(value, MAX_FACTORS) or tuple([kind_of(move) for move in value]) != lots:
        return False
    return _product(value) == _round(sum(lots[0])) and _genus(value) == 0


def turned_cactus(lots, value):
    """The cactus with the last move, carried by the round undone, first."""
    if not is_cactus(lots, value):
        raise InvalidOperation("no cactus of the kinds")
    return (renamed(value[-1], undone(_round(len(value[-1])))),) + value[:-1]


def least_rows_number(lot, many):
    """The number of least rows of so many moves, of any kinds, whose product is a told move of a kind."""
    check_filled_lot(lot)
    check_count(many, _LEAST_FACTORS, MAX_FACTORS)
    size, members = sum(lot), len(lot)
    most = (many - 1) * size
    # There are no more members than places, so no factorial is one of a number below 0.
    top = many * whole_power(many - 1, members - 1) * factorial(most)
    for member in lot:
        top = top * member * comb(many * member - 1, member - 1)
    return top // (factorial(most - members + 2) * size)


def least_rows(move, many):
    """All least rows of so many moves with a product, ascending."""
    _check_least(move, many)
    if whole_power(factorial(len(move)), many - 1) > MAX_CACTI:
        raise TooMany(MAX_CACTI)
    steps, least = [_with_least_numbers(all_moves(len(move)))] * many, _least_swaps(move)
    for row in _rows_within(move, steps, least):
        if len(places_of_moves(row)) == 1:
            yield row


def is_least_row(move, many, value):
    """Whether the value is a least row of so many moves with a product."""
    _check_least(move, many)
    if not are_moves(value, MAX_FACTORS) or len(value) != many or len(value[0]) != len(move):
        return False
    return _product(value) == move and _genus(value) == 0


def _check_least(move, many):
    check_move(move)
    check_count(many, _LEAST_FACTORS, MAX_FACTORS)
