"""Lots, tuples of integers that do not ascend, and their diagrams of squares."""

from swapsheets.base.numbers import check_count, factorial, is_integer
from swapsheets.errors import InvalidLot, InvalidOperation, TooMany

MAX_SUM = 24
MAX_BEADS = 40
MAX_FILLED = 60


def lots(total):
    """The ascending tuple of all lots with a sum."""
    check_count(total, 0, MAX_SUM)
    return tuple(_lots_up_to(total, total))


def _lots_up_to(total, most):
    """The ascending list of all lots with a sum and no member above the most."""
    if total == 0:
        return [()]
    found = []
    for first in range(1, min(total, most) + 1):
        found.extend([(first,) + rest for rest in _lots_up_to(total - first, first)])
    return found


def is_lot(value):
    """Whether the value is a lot with a sum of at most 24."""
    if not isinstance(value, tuple) or not all([is_integer(member) for member in value]):
        return False
    if not all([value[at] >= value[at + 1] for at in range(len(value) - 1)]):
        return False
    return value == () or value[-1] >= 1 and sum(value) <= MAX_SUM


def check_lot(value):
    """Raise the error of a value that is no lot."""
    if not is_lot(value):
        raise InvalidLot("no lot with a sum of at most 24")


def check_lots(one, other):
    """Raise the error of two values that are no lots with one sum."""
    check_lot(one)
    check_lot(other)
    if sum(one) != sum(other):
        raise InvalidOperation("the lots have unlike sums")


def check_filled_lot(value):
    """Raise the error of a value that is no lot with a sum of at least 1."""
    if not is_lot(value) or value == ():
        raise InvalidLot("no lot with a sum from 1 to 24")


def check_sum(lot, limit):
    """Raise the error of a lot whose sum is above a limit."""
    if sum(lot) > limit:
        raise TooMany(limit)


def sorted_lot(members):
    """The lot of these members."""
    return tuple(sorted(members, reverse=True))


def lot_without(lot, members):
    """The lot without some of its members."""
    left = list(lot)
    for member in members:
        left.remove(member)
    return tuple(left)


def lots_within(lot):
    """All lots of some of the members of a lot, each once."""
    found = [()]
    for member in sorted(set(lot))[::-1]:
        found = [begun + (member,) * many for begun in found for many in range(lot.count(member) + 1)]
    return found


def is_told_by_lots(value):
    """Whether the value is a dict from lots with one sum, perhaps without any."""
    if not isinstance(value, dict) or not all([is_lot(lot) for lot in value]):
        return False
    sums = [sum(lot) for lot in value]
    return max(sums, default=0) == min(sums, default=0)


def is_above(one, other):
    """Whether the first members of the one lot always have at least the sum of those of the other one."""
    check_lots(one, other)
    return all([sum(one[:many]) >= sum(other[:many]) for many in range(1, len(other) + 1)])


def keepers(lot):
    """The product of the members, multiplied by the renamings."""
    check_lot(lot)
    made = renamings(lot)
    for member in lot:
        made = made * member
    return made


def renamings(lot):
    """The product of all k!, k being how often each integer stands among the members."""
    check_lot(lot)
    made = 1
    for at, member in enumerate(lot):
        # The k-th one of k equal members brings the factor k.
        made = made * lot[:at + 1].count(member)
    return made


def class_size(lot):
    """How many moves have cycles of these lengths."""
    check_lot(lot)
    return factorial(sum(lot)) // keepers(lot)


def conjugate(lot):
    """The lot whose diagram has rows and columns exchanged."""
    check_lot(lot)
    return _columns(lot)


def _columns(lot):
    """The lengths of all columns of the diagram."""
    if lot == ():
        return ()
    return tuple([len([member for member in lot if member > column]) for column in range(lot[0])])


def squares_of(lot):
    """The squares (row, column) of the diagram, ascending."""
    check_lot(lot)
    return tuple([(row, column) for row, member in enumerate(lot) for column in range(member)])


def contents(lot):
    """The contents of the squares, each its column less its row."""
    return tuple([column - row for row, column in squares_of(lot)])


def content_sum(lot):
    """The sum of all contents."""
    return sum(contents(lot))


def hook(lot, square):
    """The number of squares at the right of a square, below it, and itself."""
    if not _is_square_of(squares_of(lot), square):
        raise InvalidOperation("no square of the diagram")
    row, column = square
    return _hook_at(lot, _columns(lot), row, column)


def _is_square_of(squares, value):
    # A pair with True in the place of 1 equals a square, and is none.
    if not isinstance(value, tuple) or not all([is_integer(part) for part in value]):
        return False
    return value in squares


def _hook_at(lot, columns, row, column):
    return lot[row] - column + columns[column] - row - 1


def hooks_product(lot):
    """The product of all hooks."""
    columns, made = conjugate(lot), 1
    for row, column in squares_of(lot):
        made = made * _hook_at(lot, columns, row, column)
    return made


def dimension(lot):
    """In how many ways the squares can be numbered, ascending along rows and down columns."""
    check_lot(lot)
    return factorial(sum(lot)) // hooks_product(lot)


def less_square(lot):
    """The ascending tuple of all lots that have one square less."""
    check_lot(lot)
    found = []
    for row, member in enumerate(lot):
        if row + 1 == len(lot) or lot[row + 1] < member:
            found.append(_with_member(lot, row, member - 1))
    return tuple(sorted(found))


def more_square(lot):
    """The ascending tuple of all lots that have one square more."""
    check_lot(lot)
    if sum(lot) == MAX_SUM:
        raise InvalidOperation("a lot has no more than 24 squares")
    found = [lot + (1,)]
    for row, member in enumerate(lot):
        if row == 0 or lot[row - 1] > member:
            found.append(_with_member(lot, row, member + 1))
    return tuple(sorted(found))


def _with_member(lot, row, member):
    """The lot with another member at an index, left out if it is 0."""
    kept = (member,) if member > 0 else ()
    return lot[:row] + kept + lot[row + 1:]


def beads(lot, rows):
    """The beads of a lot for a number of rows."""
    check_lot(lot)
    check_count(rows, len(lot), MAX_BEADS)
    return beads_for(lot, rows)


def beads_for(lot, rows):
    """The beads of a lot for any number of rows that is not below its own."""
    members = lot + (0,) * (rows - len(lot))
    return tuple([member + rows - 1 - row for row, member in enumerate(members)])


def lot_of_beads(value):
    """The lot with these beads."""
    if not _are_beads(value):
        raise InvalidOperation("no tuple of at most 40 integers from 0 on that descend")
    lot = _lot_behind(value)
    if sum(lot) > MAX_SUM:
        raise InvalidOperation("the lot has a sum above 24")
    return lot


def _are_beads(value):
    if not isinstance(value, tuple) or len(value) > MAX_BEADS:
        return False
    if not all([is_integer(bead) and bead >= 0 for bead in value]):
        return False
    return all([value[at] > value[at + 1] for at in range(len(value) - 1)])


def _lot_behind(spots):
    """The lot of beads that descend."""
    members = [bead - (len(spots) - 1 - at) for at, bead in enumerate(spots)]
    return tuple([member for member in members if member > 0])


def rims(lot, length):
    """The ascending tuple of the pairs (lot, sign) for all ways to take off a rim of the length."""
    check_lot(lot)
    check_count(length, 1, MAX_SUM)
    return shifted_beads(beads_for(lot, len(lot)), -length)


def shifted_beads(spots, step):
    """The ascending tuple of the pairs (lot, sign) for all ways to lead one bead on by this step."""
    found = []
    for at, bead in enumerate(spots):
        place = bead + step
        if place < 0 or place in spots:
            continue
        between = [other for other in spots if min(bead, place) < other < max(bead, place)]
        shifted = sorted(spots[:at] + (place,) + spots[at + 1:], reverse=True)
        found.append((_lot_behind(shifted), 1 - 2 * (len(between) % 2)))
    return tuple(sorted(found))


def filled_number(lot, number):
    """The number of ways to write integers from 1 to a number into the squares [3.5]."""
    check_lot(lot)
    check_count(number, 0, MAX_FILLED)
    made = 1
    for content in contents(lot):
        made = made * (number + content)
    return made // hooks_product(lot)
