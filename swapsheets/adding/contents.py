"""Contents of squares, sums of moves, and what they make of diagrams."""

from swapsheets.base.formulas import Formula
from swapsheets.base.numbers import check_count, is_integer, whole_power
from swapsheets.base.solving import solution
from swapsheets.charts.characters import central_number, central_numbers
from swapsheets.errors import InvalidLot, InvalidMove, InvalidOperation, UnknownName
from swapsheets.moving.moves import idle_move, is_move, kind_of, swap_move
from swapsheets.squares.lots import check_lot, check_sum, class_size, contents, is_lot

MAX_ADDED = 5
MOST_MOVED = 6
MOST_EXPONENT = 40
_MOST_FACTORS = 12
_SUM_WORDS = ("strict", "rising", "powers")


def power_sum(shape, many):
    """The sum of the powers of all contents with an exponent."""
    check_lot(shape)
    check_count(many, 0, MOST_EXPONENT)
    return _power_sum(shape, many)


def _power_sum(shape, many):
    return sum([whole_power(content, many) for content in contents(shape)])


def swap_sum(size, place):
    """The sum of the moves of all swaps of a place and a lesser one."""
    check_count(size, 1, MAX_ADDED)
    check_count(place, 0, size - 1)
    return _ascending({swap_move(size, (low, place)): 1 for low in range(place)})


def sum_times(one, other):
    """The product of two sums of moves."""
    for moves_sum in (one, other):
        if not _is_moves_sum(moves_sum):
            raise InvalidMove("no dict from moves of at most five places to integers other than 0")
    if len(list(one)[0]) != len(list(other)[0]):
        raise InvalidOperation("the moves have unlike numbers of places")
    return _product(one, other)


def _is_moves_sum(value):
    if not isinstance(value, dict) or not value or not all([is_move(move) for move in value]):
        return False
    sizes = [len(move) for move in value]
    if max(sizes) > MAX_ADDED or min(sizes) != max(sizes):
        return False
    return all([is_integer(entry) and entry != 0 for entry in value.values()])


def _ascending(moves_sum):
    """The sum of moves with its keys ascending and without entries 0."""
    return {move: moves_sum[move] for move in sorted(list(moves_sum)) if moves_sum[move] != 0}


def _product(one, other):
    made = {}
    for first, entry in one.items():
        for second, number in other.items():
            move = tuple([second[place] for place in first])
            made[move] = made.get(move, 0) + entry * number
    return _ascending(made)


def _added(one, other):
    made = {move: one[move] for move in one}
    for move, entry in other.items():
        made[move] = made.get(move, 0) + entry
    return _ascending(made)


def symmetric_sum(size, word, many):
    """The symmetric sum of a word: of products of swap sums, or of their powers."""
    check_count(size, 1, MAX_ADDED)
    if word not in _SUM_WORDS:
        raise UnknownName(word)
    check_count(many, int(word == "powers"), _MOST_FACTORS)
    parts = [swap_sum(size, place) for place in range(1, size)]
    if word == "powers":
        return _sum_of_powers(idle_move(size), parts, many)
    spots = list(range(1, many + 1))
    # From above, so that no product takes a swap sum twice; from below, so that it may.
    if word == "strict":
        spots = spots[::-1]
    sums = [{idle_move(size): 1}] + [{}] * many
    for part in parts:
        for spot in spots:
            sums[spot] = _added(sums[spot], _product(sums[spot - 1], part))
    return sums[many]


def _sum_of_powers(idle, parts, many):
    made = {}
    for part in parts:
        power = {idle: 1}
        for _ in range(many):
            power = _product(power, part)
        made = _added(made, power)
    return made


def made_number(shape, moves_sum):
    """What a sum of moves with equal entries at all moves of each kind makes of a diagram."""
    check_lot(shape)
    if not _is_moves_sum(moves_sum) or len(list(moves_sum)[0]) != sum(shape):
        raise InvalidMove("no sum of moves of as many places as the diagram has squares")
    entries = {}
    for move, entry in moves_sum.items():
        entries.setdefault(kind_of(move), []).append(entry)
    for lot, found in entries.items():
        if len(found) != class_size(lot) or min(found) != max(found):
            raise InvalidMove("the entries at the moves of a kind are not equal")
    return sum([found[0] * central_number(shape, lot) for lot, found in entries.items()])


def class_formula(lot):
    """The formula in the number of squares and the power sums of contents that a kind makes."""
    if not is_lot(lot) or 1 in lot:
        raise InvalidLot("no lot without a member 1")
    check_sum(lot, MOST_MOVED)
    weight = sum(lot) + len(lot)
    counts = [2] + list(range(3, weight + 1))
    terms = [term for term in _terms_within(counts, weight) if _has_parity(term, sum(lot) - len(lot))]
    rows = []
    # No such formula other than 0 is 0 at all diagrams of sums up to its degree, which is below the weight.
    for total in range(max(weight, 1)):
        for shape, number in _made_of_all(lot, total).items():
            values = [total] + [_power_sum(shape, many) for many in range(1, len(counts))]
            rows.append([_term_value(term, values) for term in terms] + [number])
    return Formula(len(counts), {term: number for term, number in zip(terms, solution(rows, len(terms)))})


def _terms_within(counts, weight):
    """The exponents of all terms that count no more than the weight."""
    if counts == []:
        return [()]
    found = []
    for many in range(weight // counts[0] + 1):
        found.extend([(many,) + rest for rest in _terms_within(counts[1:], weight - many * counts[0])])
    return found


def _has_parity(term, number):
    # The conjugate has the opposite contents, and what a kind makes of it differs by a sign alone.
    return (sum([place * many for place, many in enumerate(term)]) - number) % 2 == 0


def _made_of_all(lot, total):
    """The dict from all diagrams of a sum to what all moves of a kind, and ones, make of them."""
    ones = total - sum(lot)
    if ones < 0:
        return {shape: 0 for shape in central_numbers((1,) * total)}
    return central_numbers(lot + (1,) * ones)


def _term_value(term, values):
    made = 1
    for many, value in zip(term, values):
        made = made * whole_power(value, many)
    return made
