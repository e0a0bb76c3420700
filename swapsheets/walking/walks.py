"""Walks among kinds: rows of any number of swaps, by tables, sums of powers and recursions."""

from swapsheets.base.numbers import check_count, is_fraction, is_integer, reduced, strict_sums, weighed_sum
from swapsheets.base.numbers import whole_power
from swapsheets.charts.characters import character_products
from swapsheets.errors import InvalidOperation
from swapsheets.rising.weights import weighted_number
from swapsheets.squares.lots import check_lot, check_lots, check_sum, content_sum, is_lot, keepers, lots
from swapsheets.squares.lots import lot_without, sorted_lot

MAX_WALKED = 8
MAX_SUM = 14
MAX_MANY = 200
MAX_FAR = 2000
_MOST_PARTS = 200


def partings(lot):
    """All ways to part a member: lists of triples (member, first part, lot with both parts)."""
    found = []
    for at, member in enumerate(lot):
        rest = lot[:at] + lot[at + 1:]
        found.extend([(member, part, sorted_lot(rest + (part, member - part))) for part in range(1, member)])
    return found


def joinings(lot):
    """All ways to join two members: lists of triples (one, other, lot with their sum)."""
    found = []
    for at, one in enumerate(lot):
        for later in range(at + 1, len(lot)):
            rest = lot[:at] + lot[at + 1:later] + lot[later + 1:]
            found.append((one, lot[later], sorted_lot(rest + (one + lot[later],))))
    return found


def parting_ways(lot):
    """The dict from all lots that come by parting a member to the numbers of swaps that do so."""
    doubled = {}
    for member, _, target in partings(lot):
        doubled[target] = doubled.get(target, 0) + member
    # Parts are told in both sequences, equal ones once: but a swap of these has half as many ways.
    return {target: number // 2 for target, number in doubled.items()}


def joining_ways(lot):
    """The dict from all lots that come by joining two members to the numbers of swaps that do so."""
    found = {}
    for one, other, target in joinings(lot):
        found[target] = found.get(target, 0) + one * other
    return found


def swap_ways(lot):
    """The dict from all lots that come by a swap to the numbers of swaps that do so."""
    found = parting_ways(lot)
    for target, number in joining_ways(lot).items():
        # Parting and joining lead to lots of unlike lengths, so this one is not there yet.
        found[target] = number
    return found


def led_on(entries, ways, known):
    """What comes of a dict from lots to integers if each lot is replaced by all that its ways lead to.

    The ways of a lot are kept in `known`, as it comes up again and again.
    """
    found = {}
    for lot, entry in entries.items():
        if lot not in known:
            known[lot] = ways(lot)
        for target, number in known[lot].items():
            found[target] = found.get(target, 0) + entry * number
    return found


def walk_table(total):
    """The dict from all lots of a sum to dicts from lots to how many swaps lead there."""
    check_count(total, 1, MAX_WALKED)
    table = {}
    for lot in lots(total):
        ways = swap_ways(lot)
        table[lot] = {target: ways[target] for target in sorted(list(ways))}
    return table


def rows_number(one, other, many):
    """The number of rows of so many swaps between moves of two kinds, divided by d!: a fraction."""
    return weighted_number(one, other, many, "all")


def rows_from(one, other, many):
    """The number of rows of so many swaps from a move of one kind to moves of another kind."""
    top, bottom = rows_number(one, other, many)
    return top * keepers(one) // bottom


def walked(one, many):
    """The dict from all lots to the numbers above 0 of rows of so many swaps from a kind."""
    check_lot(one)
    check_count(many, 0, MAX_MANY)
    check_sum(one, MAX_WALKED)
    found, known = {one: 1}, {}
    for _ in range(many):
        found = led_on(found, swap_ways, known)
    return {lot: found[lot] for lot in sorted(list(found))}


def power_parts(one, other):
    """The dict from integers c to fractions w such that the sum of all w * c ** r counts the rows."""
    check_lots(one, other)
    check_sum(one, MAX_SUM)
    parts, shared = _whole_parts(one, other), keepers(one) * keepers(other)
    return {spot: reduced(parts[spot], shared) for spot in parts}


def _whole_parts(one, other):
    """The power parts, multiplied by z of both lots, so that they are integers."""
    found = {}
    for shape, product in character_products(one, other).items():
        spot = content_sum(shape)
        found[spot] = found.get(spot, 0) + product
    return {spot: found[spot] for spot in sorted(list(found)) if found[spot] != 0}


def powers_at(parts, many):
    """The sum of all w * c ** many for the pairs of a dict from integers c to fractions w."""
    if not _are_parts(parts):
        raise InvalidOperation("no dict from integers to at most 200 fractions other than 0")
    check_count(many, 0, MAX_MANY)
    return weighed_sum([whole_power(spot, many) for spot in parts], list(parts.values()))


def _are_parts(value):
    if not isinstance(value, dict) or len(value) > _MOST_PARTS:
        return False
    if not all([is_integer(spot) for spot in value]):
        return False
    return all([is_fraction(part) and part[0] != 0 for part in value.values()])


def least_recursion(total):
    """The shortest integers, the last one 1, that make 0 of so many neighbouring numbers of rows."""
    check_count(total, 1, MAX_WALKED)
    spots = sorted(set([content_sum(shape) for shape in lots(total)]))
    # The coefficients of the product of all x - c, the greatest power first.
    return tuple(strict_sums([-spot for spot in spots], len(spots))[::-1])


def numbers_to(one, other, most):
    """The tuple of the numbers of rows from one kind to another one, for all numbers of swaps."""
    check_lots(one, other)
    check_count(most, 0, MAX_FAR)
    check_sum(one, MAX_WALKED)
    parts, shared = _whole_parts(one, other), keepers(other)
    spots, powers, found = list(parts), list(parts.values()), []
    for _ in range(most + 1):
        found.append(sum(powers) // shared)
        powers = [spot * power for spot, power in zip(spots, powers)]
    return tuple(found)


def least_many(one, other):
    """The least number of swaps that lead from one kind to another one."""
    blocks = any_blocks(one, other)
    return len(one) + len(other) - 2 * len(blocks)


def any_blocks(one, other):
    """Blocks of two lots, as many as can be."""
    check_lots(one, other)
    check_sum(one, MAX_SUM)
    known = {}
    _most_ends(one, other, known)
    found, start = [], (one, other)
    while start != ((), ()):
        end = known[start][1]
        while sum(end[0]) != sum(end[1]):
            end = known[end][1]
        found.append((lot_without(start[0], end[0]), lot_without(start[1], end[1])))
        start = end
    return tuple(found)


def _most_ends(one, other, known):
    """How often both lots can have one sum above 0 if their members are taken out one by one.

    So they fall into blocks. It does not matter to take a member of the greater sum at each time, as
    what a block has can be taken in any sequence. What comes next is kept in `known` beside the number.
    """
    if (one, other) == ((), ()):
        return 0
    if (one, other) not in known:
        if sum(one) >= sum(other):
            ways = [(less, other) for less in _one_member_less(one)]
        else:
            ways = [(one, less) for less in _one_member_less(other)]
        number, way = max([(_most_ends(here, there, known), (here, there)) for here, there in ways])
        known[one, other] = (number + int(sum(one) == sum(other)), way)
    return known[one, other][0]


def _one_member_less(lot):
    """All lots that come by taking a member out, each once."""
    return [lot[:at] + lot[at + 1:] for at in range(len(lot)) if at == 0 or lot[at - 1] != lot[at]]


def are_blocks(one, other, value):
    """Whether the value is blocks of two lots, of any number, in any sequence."""
    check_lots(one, other)
    check_sum(one, MAX_SUM)
    if not isinstance(value, tuple) or not all([_is_block(pair) for pair in value]):
        return False
    firsts = sorted_lot([member for first, _ in value for member in first])
    seconds = sorted_lot([member for _, second in value for member in second])
    return (firsts, seconds) == (one, other)


def _is_block(value):
    if not isinstance(value, tuple) or len(value) != 2 or not all([is_lot(lot) for lot in value]):
        return False
    return sum(value[0]) == sum(value[1]) > 0
