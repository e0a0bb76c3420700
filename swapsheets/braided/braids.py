"""Braid moves: steps that lead rows of swaps to one another, and first rows, which tell when they can."""

from swapsheets.base.numbers import check_count, is_integer
from swapsheets.errors import InvalidOperation, InvalidRow, InvalidWay, TooMany
from swapsheets.moving.moves import behind_swap, idle_move, is_row, joined_places, row_number, row_product, swaps_of

MAX_BRAIDED = 12
MAX_WAY = 4000
MAX_JUDGED = 20000
_MOST_PLACES = 8


def stepped(size, row, step):
    """The row behind a step."""
    _check_row(size, row)
    if not _is_step(len(row), step):
        raise InvalidOperation("no step that is let for the row")
    return _behind_steps(row, (step,))


def led_by(size, row, way):
    """The row behind all steps of a way."""
    _check_row(size, row)
    if not _is_way(len(row), way):
        raise InvalidWay("no tuple of at most 20,000 steps that are let")
    return _behind_steps(row, way)


def _check_row(size, row):
    check_count(size, 1, _MOST_PLACES)
    _check_swaps(size, row)


def _check_rows(size, one, other):
    _check_row(size, one)
    _check_swaps(size, other)


def _check_swaps(size, row):
    if not is_row(size, row) or len(row) > MAX_BRAIDED:
        raise InvalidRow("no row of at most twelve swaps of so many places")


def _is_step(many, value):
    return is_integer(value) and 1 <= abs(value) < many


def _is_way(many, value):
    """Whether the value is a way for rows of so many swaps."""
    if not isinstance(value, tuple) or len(value) > MAX_JUDGED:
        return False
    return all([_is_step(many, step) for step in value])


def _behind_steps(row, way):
    swaps = list(row)
    for step in way:
        _take_step(swaps, step)
    return tuple(swaps)


def _take_step(swaps, step):
    """Change a list of swaps by a step."""
    at = abs(step) - 1
    one, other = swaps[at], swaps[at + 1]
    if step > 0:
        swaps[at], swaps[at + 1] = _carried(other, one), one
    else:
        swaps[at], swaps[at + 1] = other, _carried(one, other)


def _carried(swap, by):
    """The swap of the places to which another swap leads those of a swap."""
    return tuple(sorted(behind_swap(swap, by)))


def joined_lots(size, row):
    """The lots of at least two places that the swaps of a row join."""
    _check_row(size, row)
    return _joined(size, row)


def _joined(size, row):
    return tuple([places for places in joined_places(size, row) if len(places) > 1])


def numbers_of(size, row):
    """How many swaps of a row are of each joined lot."""
    _check_row(size, row)
    return _numbers(size, row)


def _numbers(size, row):
    firsts = [low for low, _ in row]
    return tuple([len([low for low in firsts if low in places]) for places in _joined(size, row)])


def first_row(size, row):
    """The first row of the braid lot of a row."""
    _check_row(size, row)
    product, made = row_product(size, row), ()
    for places, many in zip(_joined(size, row), _numbers(size, row)):
        made = made + _first_of(product, places, many)
    return made


def _first_of(product, places, many):
    """The first row of a joined lot, if so many swaps have this product."""
    left, move, made = list(places), product, ()
    while len(left) > 2:
        high = left.pop()
        target = move[high]
        if target != high:
            made = ((target, high),) + made
            move = behind_swap(move, (target, high))
        else:
            made = ((left[0], high),) * 2 + made
    return ((left[0], left[1]),) * (many - len(made)) + made


def are_braided(size, one, other):
    """Whether a way leads from one row to another one."""
    return parting(size, one, other) is None


def parting(size, one, other):
    """The first word for what two rows do not have in common, None if a way leads from one to the other."""
    _check_rows(size, one, other)
    if row_product(size, one) != row_product(size, other):
        return "product"
    if _joined(size, one) != _joined(size, other):
        return "lots"
    if _numbers(size, one) != _numbers(size, other):
        return "numbers"
    return None


def braid_way(size, one, other):
    """A way from one row to another one, None if there is none."""
    if parting(size, one, other) is not None:
        return None
    here, there = _way_to_first(size, one), _way_to_first(size, other)
    return tuple(here + [-step for step in there[::-1]])


def is_braid_way(size, one, other, value):
    """Whether the value is a way from one row to another one."""
    _check_rows(size, one, other)
    return _is_way(len(one), value) and _behind_steps(one, value) == other


# Below, a list of swaps is changed step by step, and each step is put to the end of a list of steps.


def _take(swaps, steps, step):
    _take_step(swaps, step)
    steps.append(step)


def _way_to_first(size, row):
    """The list of steps that lead a row to its first row."""
    swaps, steps, start = list(row), [], 0
    for places, many in zip(_joined(size, row), _numbers(size, row)):
        # Swaps of unlike joined lots stay as they are if they pass one another.
        _gather(swaps, steps, start, len(swaps), places)
        left, end = list(places), start + many
        while len(left) > 2:
            high = left.pop()
            end = _settle(swaps, steps, start, end, left[0], high)
        start = start + many
    return steps


def _gather(swaps, steps, start, end, places):
    """Lead all swaps between two spots whose greater place is among some places ahead, as they are."""
    spot = start
    for at in range(start, end):
        if swaps[at][1] in places:
            for step in range(at, spot, -1):
                _take(swaps, steps, -step)
            spot = spot + 1
    return spot


def _settle(swaps, steps, start, end, least, high):
    """Lead the swaps of the greatest place to the end, as the first row has them; the spot ahead of them.

    All swaps between the spots join places from the least one to the greatest one.
    """
    while True:
        spot = _gather(swaps, steps, start, end, list(range(high)))
        ends = [low for low, _ in swaps[spot:end]]
        unlike = [at for at in range(len(ends) - 1) if ends[at] != ends[at + 1]]
        if unlike:
            # Two swaps of the greatest place become one of them and one that leaves it.
            _take(swaps, steps, spot + unlike[0] + 1)
        elif len(ends) > 2:
            # Two of at least three equal swaps become other ones, so that the next turn finds unlike ones.
            _carry_pair(swaps, steps, spot, _last_with(swaps, start, spot, ends[0]))
        elif len(ends) == 2 and ends[0] != least:
            _carry_pair(swaps, steps, spot, _on_the_way(swaps[start:spot], ends[0], least) + start)
        else:
            return spot


def _last_with(swaps, start, spot, place):
    """The last spot ahead of another one where a swap has a place."""
    return [at for at in range(start, spot) if place in swaps[at]][-1]


def _on_the_way(swaps, place, target):
    """The spot of the swap that leads on from a place, if swaps lead from it to another one in the end."""
    # From the target on, so that what leads on is the same for all turns until it is there.
    leads = {target: -1}
    while place not in leads:
        for at, (low, high) in enumerate(swaps):
            for here, there in ((low, high), (high, low)):
                if there in leads and here not in leads:
                    leads[here] = at
    return leads[place]


def _carry_pair(swaps, steps, spot, by):
    """Carry the two equal swaps at a spot by a swap ahead of them, and leave all else as it is."""
    # Two equal swaps pass any swap in this way, and neither they nor it change in the end.
    for at in range(spot - 1, by, -1):
        _take(swaps, steps, -at - 1)
        _take(swaps, steps, -at - 2)
    # But this one passes them as it is, and carries both.
    _take(swaps, steps, by + 1)
    _take(swaps, steps, by + 2)
    for at in range(by, spot):
        _take(swaps, steps, at + 2)
        _take(swaps, steps, at + 1)


def braid_lot(size, row):
    """The ascending tuple of all rows to which ways lead from a row."""
    _check_row(size, row)
    _check_few(size, len(row))
    seen, waiting = {row: True}, [row]
    while waiting:
        last = waiting.pop()
        # Each step is undone by others of its kind in a lot of finitely many rows, so those above 0 will do.
        for step in range(1, len(last)):
            found = _behind_steps(last, (step,))
            if found not in seen:
                seen[found] = True
                waiting.append(found)
    return tuple(sorted(list(seen)))


def _check_few(size, many):
    """Raise the error of too many rows of so many swaps."""
    if row_number(size, many, "all") > MAX_JUDGED:
        raise TooMany(MAX_JUDGED)


def braid_lots_number(size, many):
    """The number of braid lots of all rows of so many swaps."""
    check_count(size, 1, _MOST_PLACES)
    check_count(many, 0, MAX_BRAIDED)
    _check_few(size, many)
    found = {(idle_move(size), ()): True}
    for _ in range(many):
        longer = {}
        # A list, as behind the loop `longer` takes the name of what is walked.
        for product, told in list(found):
            for swap in swaps_of(size):
                longer[behind_swap(product, swap), _with_swap(told, swap)] = True
        found = longer
    return len(found)


def _with_swap(told, swap):
    """The pairs of a joined lot and its number, ascending, with one swap more."""
    places, many, kept = list(swap), 1, []
    for lot, number in told:
        if swap[0] in lot or swap[1] in lot:
            places.extend(lot)
            many = many + number
        else:
            kept.append((lot, number))
    return tuple(sorted(kept + [(tuple(sorted(set(places))), many)]))
