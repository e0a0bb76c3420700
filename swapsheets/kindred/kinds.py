"""Kinds of moves: what carries moves to one another, and products, powers and roots of kinds."""

from math import gcd, perm

from swapsheets.base.numbers import check_integer, is_fraction, is_integer, product_of, reduced, weighed_sum
from swapsheets.base.numbers import whole_power
from swapsheets.charts.characters import central_numbers, character_column, class_products
from swapsheets.errors import InvalidCount, InvalidOperation, TooMany
from swapsheets.moving.moves import check_move, cycles, is_move, kind_of, renamed
from swapsheets.squares.lots import check_lot, check_sum, dimension, is_lot, is_told_by_lots, keepers, sorted_lot

MAX_LISTED = 7
MAX_KINDRED = 8
MAX_KEPT = 20000
MAX_KINDS = 6
_MOST_DIGITS = 60


def class_moves(lot):
    """All moves of a kind, ascending."""
    check_lot(lot)
    check_sum(lot, MAX_KINDRED)
    waiting = [()]
    while waiting:
        begun = waiting.pop()
        if len(begun) == sum(lot):
            yield begun
        else:
            # The least beginning is put last, as it is to be taken first.
            waiting.extend(_longer_beginnings(begun, lot)[::-1])


def _longer_beginnings(begun, lot):
    """The beginnings of moves with one place more that can still become of a kind, ascending."""
    free = [place for place in range(sum(lot)) if place not in begun]
    longer = [begun + (place,) for place in free]
    return [beginning for beginning in longer if _can_become(beginning, lot)]


def _can_become(begun, lot):
    """Whether the cycles of a beginning are some of a kind, and no path is too long for the others."""
    many, left, longest = len(begun), list(lot), 0
    seen = [False] * many
    # Paths are gone along first, from where nothing leads; what is not seen then goes round.
    starts = [place for place in range(many) if place not in begun]
    for start in starts + list(range(many)):
        place, length = start, 0
        while place < many and not seen[place]:
            seen[place] = True
            place, length = begun[place], length + 1
        if place >= many:
            longest = max(longest, length + 1)
        elif length > 0 and length not in left:
            return False
        elif length > 0:
            left.remove(length)
    return longest <= max(left, default=0)


def carrier(one, other):
    """A move that carries one move to another one, None if there is none."""
    _check_moves(one, other)
    if kind_of(one) != kind_of(other):
        return None
    made = [0] * len(one)
    for cycle, target in zip(sorted(cycles(one), key=len), sorted(cycles(other), key=len)):
        for place, end in zip(cycle, target):
            made[place] = end
    return tuple(made)


def is_carrier(one, other, value):
    """Whether the value is a move that carries one move to another one."""
    _check_moves(one, other)
    return is_move(value) and len(value) == len(one) and renamed(one, value) == other


def _check_moves(one, other):
    check_move(one)
    check_move(other)
    if len(one) != len(other):
        raise InvalidOperation("the moves have unlike numbers of places")


def keeping(move):
    """All moves that go with a move, ascending."""
    around = cycles(move)
    if keepers(kind_of(move)) > MAX_KEPT:
        raise TooMany(MAX_KEPT)
    # Where the least places of the first cycles are led; all else follows from this.
    waiting = [()]
    while waiting:
        ends = waiting.pop()
        if len(ends) == len(around):
            yield _led_along(move, around, ends)
        else:
            waiting.extend(_longer_ends(around, ends)[::-1])


def _longer_ends(around, ends):
    """The ends with one more, ascending: a place of an equally long cycle that has none of them."""
    length, found = len(around[len(ends)]), []
    for cycle in around:
        if len(cycle) == length and not any([place in ends for place in cycle]):
            found.extend(cycle)
    return [ends + (place,) for place in sorted(found)]


def _led_along(move, around, ends):
    """The move that leads each cycle, place by place, along the one of its end."""
    made = [0] * len(move)
    for cycle, end in zip(around, ends):
        target = end
        for place in cycle:
            made[place] = target
            target = move[target]
    return tuple(made)


def product_number(one, other, third):
    """The number of pairs of moves of two kinds that make a told move of a third kind."""
    _check_kinds((one, other, third))
    return class_products(one, other)[third]


def product_table(one, other):
    """The dict from all lots for which it is not 0 to the product number."""
    _check_kinds((one, other))
    found = class_products(one, other)
    return {lot: found[lot] for lot in found if found[lot] != 0}


def _check_kinds(told):
    """Raise the error of values that are no lots with one sum of at most 8."""
    for lot in told:
        check_lot(lot)
    sums = [sum(lot) for lot in told]
    if min(sums) != max(sums):
        raise InvalidOperation("the lots have unlike sums")
    check_sum(told[0], MAX_KINDRED)


def rows_of_kinds(lots, third):
    """The number of rows of moves, one of each kind, whose product is a told move of a third kind."""
    if not isinstance(lots, tuple) or not 1 <= len(lots) <= MAX_KINDS or not all([is_lot(lot) for lot in lots]):
        raise InvalidOperation("no tuple of one to six lots")
    _check_kinds((third,) + lots)
    made = {shape: (1, 1) for shape in central_numbers(third)}
    for lot in lots:
        numbers = central_numbers(lot)
        made = {shape: (made[shape][0] * numbers[shape], 1) for shape in made}
    return _entry_at(made, third)[0]


def _entry_at(made, lot):
    """The fraction of a kind in the sum of lots that makes told fractions of all diagrams [6.4]."""
    column = character_column(lot)
    numbers = [dimension(shape) * column[shape] for shape in made]
    top, bottom = weighed_sum(numbers, list(made.values()))
    # All moves are the squares of the dimensions, added up.
    return reduced(top, bottom * sum([dimension(shape) * dimension(shape) for shape in made]))


def kinds_product(one, other):
    """The product of two sums of lots."""
    for lots_sum in (one, other):
        if not _is_sum_of_lots(lots_sum):
            raise InvalidOperation("no dict from lots with one sum to fractions other than 0")
    sums = [sum(lot) for lot in list(one)[:1] + list(other)[:1]]
    if len(sums) == 2 and sums[0] != sums[1]:
        raise InvalidOperation("the lots have unlike sums")
    if max(sums, default=0) > MAX_KINDRED:
        raise TooMany(MAX_KINDRED)
    if not one or not other:
        return {}
    found = _with_entries(_made_by(one), _made_by(other))
    if not all([is_integer(part) for pair in found.values() for part in pair]):
        raise TooMany(_MOST_DIGITS)
    return found


def _is_sum_of_lots(value):
    if not is_told_by_lots(value):
        return False
    return all([is_fraction(entry) and entry[0] != 0 for entry in value.values()])


def _made_by(lots_sum):
    """The dict from all diagrams to the fractions that a sum of lots makes of them."""
    tables, pairs = [central_numbers(lot) for lot in lots_sum], list(lots_sum.values())
    return {shape: weighed_sum([table[shape] for table in tables], pairs) for shape in tables[0]}


def _with_entries(here, there):
    """The sum of lots that makes the products of two fractions of each diagram."""
    made = {shape: product_of(here[shape], there[shape]) for shape in here}
    entries = {lot: _entry_at(made, lot) for lot in made}
    return {lot: entries[lot] for lot in entries if entries[lot][0] != 0}


def power_kind(lot, number):
    """The kind of a move of a kind that is done so many times."""
    check_lot(lot)
    check_integer(number)
    members = []
    for member in lot:
        # A move done so many times below 0 parts each cycle as the opposite number does.
        shared = gcd(member, number)
        members.extend([member // shared] * shared)
    return sorted_lot(members)


def roots_number(lot, many):
    """How many moves, done so many times, are a told move of a kind."""
    check_lot(lot)
    if not is_integer(many) or many < 1:
        raise InvalidCount(many)
    made = 1
    for member in sorted(set(lot)):
        made = made * _roots_of_equal(member, lot.count(member), many)
    return made


def _roots_of_equal(length, cycles_number, many):
    """How many moves, done so many times, are a told move that has so many cycles of one length."""
    roots = [1]
    for left in range(1, cycles_number + 1):
        total = 0
        for group in range(1, left + 1):
            # One cycle of a root becomes so many, as the greatest common divisor tells.
            if gcd(length * group, many) == group:
                ways = perm(left - 1, group - 1) * whole_power(length, group - 1)
                total = total + ways * roots[left - group]
        roots.append(total)
    return roots[cycles_number]
