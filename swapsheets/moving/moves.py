"""Moves of places, swaps of two places, and rows of swaps."""

from swapsheets.base.numbers import check_count, is_count, rising_sums, strict_sums, whole_power
from swapsheets.errors import InvalidMove, InvalidRow, InvalidSwap, UnknownName
from swapsheets.squares.lots import check_filled_lot, sorted_lot

MOST_PLACES = 24
MOST_LISTED = 7
MOST_ROW = 200
ROW_WORDS = ("all", "rising", "strict")


def is_move(value):
    """Whether the value is a move of any number of places."""
    if not isinstance(value, tuple) or not 1 <= len(value) <= MOST_PLACES:
        return False
    if not all([is_count(place, 0, len(value) - 1) for place in value]):
        return False
    return sorted(value) == list(range(len(value)))


def is_swap(size, value):
    """Whether the value is a swap of so many places."""
    check_size(size)
    return _is_swap_of(size, value)


def is_row(size, value):
    """Whether the value is a row of so many places."""
    check_size(size)
    if not isinstance(value, tuple) or len(value) > MOST_ROW:
        return False
    return all([_is_swap_of(size, swap) for swap in value])


def is_rising(size, value):
    """Whether the value is a row whose greater places do not fall."""
    return is_row(size, value) and all([one <= other for one, other in _neighbours(value)])


def is_strict(size, value):
    """Whether the value is a row whose greater places rise."""
    return is_row(size, value) and all([one < other for one, other in _neighbours(value)])


def _neighbours(row):
    """The greater places of each swap but the last one and of the one behind it."""
    return [(row[at][1], row[at + 1][1]) for at in range(len(row) - 1)]


def _is_swap_of(size, value):
    if not isinstance(value, tuple) or len(value) != 2:
        return False
    return all([is_count(place, 0, size - 1) for place in value]) and value[0] < value[1]


def check_size(size):
    """Raise the error of a number of places."""
    check_count(size, 1, MOST_PLACES)


def check_move(value):
    """Raise the error of a value that is no move."""
    if not is_move(value):
        raise InvalidMove("no move of 1 to 24 places")


def check_move_of(size, value):
    """Raise the error of a value that is no move of so many places."""
    if not is_move(value) or len(value) != size:
        raise InvalidMove("no move of so many places")


def are_moves(value, most):
    """Whether the value is a tuple of moves of one number of places, at least one and at most so many."""
    if not isinstance(value, tuple) or not 1 <= len(value) <= most:
        return False
    if not all([is_move(move) for move in value]):
        return False
    return all([len(move) == len(value[0]) for move in value])


def check_word(word):
    """Raise the error of a word that is none for rows."""
    if word not in ROW_WORDS:
        raise UnknownName(word)


def moves(size):
    """All moves of so many places, ascending."""
    check_count(size, 1, MOST_LISTED)
    move = idle_move(size)
    while move is not None:
        yield move
        move = _next_move(move)


def all_moves(size):
    """The list of all moves of so many places, ascending."""
    return list(moves(size))


def _next_move(move):
    """The next move in Python's order, None behind the last one."""
    at = len(move) - 2
    while at >= 0 and move[at] > move[at + 1]:
        at -= 1
    if at < 0:
        return None
    higher = min([place for place in move[at + 1:] if place > move[at]])
    rest = sorted([place for place in move[at:] if place != higher])
    return move[:at] + (higher,) + tuple(rest)


def idle_move(size):
    """The move that leads each place to itself."""
    return tuple(range(size))


def behind(one, other):
    """The move of one move and then another one."""
    check_move(one)
    check_move_of(len(one), other)
    return tuple([other[place] for place in one])


def undone(move):
    """The move that leads each place back."""
    check_move(move)
    return _back(move)


def _back(places):
    """For each place where it stands among the places."""
    found = [0] * len(places)
    for at, place in enumerate(places):
        found[place] = at
    return tuple(found)


def renamed(one, other):
    """One move, renamed by another one: it leads other[i] to other[one[i]]."""
    check_move(one)
    check_move_of(len(one), other)
    made = [0] * len(one)
    for at, place in enumerate(one):
        made[other[at]] = other[place]
    return tuple(made)


def cycles(move):
    """The tuple of all cycles, each one from its least place on, ascending."""
    check_move(move)
    found, seen = [], [False] * len(move)
    for start in range(len(move)):
        if seen[start]:
            continue
        cycle, place = [], start
        while not seen[place]:
            seen[place] = True
            cycle.append(place)
            place = move[place]
        found.append(tuple(cycle))
    return tuple(found)


def kind_of(move):
    """The lot of the lengths of all cycles."""
    return sorted_lot([len(cycle) for cycle in cycles(move)])


def first_move(lot):
    """The move of a kind whose cycles take the places in sequence."""
    check_filled_lot(lot)
    made = []
    for member in lot:
        start = len(made)
        made.extend(list(range(start + 1, start + member)) + [start])
    return tuple(made)


def joined_places(size, pairs):
    """The lots of places that pairs of places join, ascending tuples by their least places."""
    marks = list(range(size))
    for place, end in pairs:
        old, new = marks[place], marks[end]
        if old != new:
            marks = [new if mark == old else mark for mark in marks]
    found = {}
    for place, mark in enumerate(marks):
        found.setdefault(mark, []).append(place)
    return tuple([tuple(places) for places in found.values()])


def places_of_moves(told):
    """The lots of places that moves of one number of places join."""
    pairs = []
    for move in told:
        pairs.extend(list(enumerate(move)))
    return joined_places(len(told[0]), pairs)


def swap_move(size, swap):
    """The move that exchanges the places of a swap."""
    check_size(size)
    if not _is_swap_of(size, swap):
        raise InvalidSwap("no swap of so many places")
    return row_product(size, (swap,))


def swaps_of(size):
    """The list of all swaps of so many places, ascending."""
    return [(low, high) for low in range(size) for high in range(low + 1, size)]


def behind_swap(move, swap):
    """A move and then a swap."""
    low, high = swap
    exchanged = {low: high, high: low}
    return tuple([exchanged.get(place, place) for place in move])


def row_product(size, row):
    """The move of all swaps of a row, from left to right."""
    if not is_row(size, row):
        raise InvalidRow("no row of so many places")
    # Which place is led to each one: just two entries of this change by a swap.
    sources = list(range(size))
    for low, high in row:
        sources[low], sources[high] = sources[high], sources[low]
    return _back(sources)


def least_number(move):
    """The number of places less that of the cycles."""
    check_move(move)
    return len(move) - len(cycles(move))


def parity(move):
    """The rest modulo 2 of the number of swaps in each row with this product."""
    return least_number(move) % 2


def strict_row(move):
    """The only strict row with this product."""
    check_move(move)
    left, found = list(move), []
    for place in range(len(move) - 1, 0, -1):
        target = left[place]
        if target == place:
            continue
        found.append((target, place))
        left[left.index(place)] = target
    return tuple(found[::-1])


def row_of(move, many):
    """A row of so many swaps with this product, None if there is none."""
    least = least_number(move)
    check_count(many, 0, MOST_ROW)
    if many < least or (many - least) % 2 == 1:
        return None
    if len(move) == 1:
        return () if many == 0 else None
    return strict_row(move) + ((0, 1),) * (many - least)


def is_row_of(move, value):
    """Whether the value is a row with this product."""
    check_move(move)
    return is_row(len(move), value) and row_product(len(move), value) == move


def row_number(size, many, word):
    """The number of all rows of so many swaps of a word."""
    check_size(size)
    check_count(many, 0, MOST_ROW)
    check_word(word)
    if word == "all":
        return whole_power(size * (size - 1) // 2, many)
    if word == "rising":
        return rising_sums(list(range(1, size)), many)[many]
    return strict_sums(list(range(1, size)), many)[many]
