"""Rooms and walls: numbers of rows that join all places, as formulas in their ends."""

from math import comb

from swapsheets.base.formulas import Formula, fitted
from swapsheets.base.numbers import check_count, is_integer, whole_power
from swapsheets.errors import InvalidEnds, InvalidOperation

MOST_ENDS = 6
MOST_ROUND = 4
_LEAST_ENDS = 2


def is_ends(value, genus):
    """Whether the value is ends for a genus."""
    check_count(genus, 0, 1)
    if genus == 1:
        return _are_ends(value, _LEAST_ENDS, MOST_ROUND)
    return _are_ends(value, _LEAST_ENDS + 1, MOST_ENDS)


def _are_ends(value, least, most):
    if not isinstance(value, tuple) or not least <= len(value) <= most:
        return False
    return all([is_integer(end) and end != 0 for end in value]) and sum(value) == 0


def _check_ends(value):
    """Raise the error of a value that is no ends for one of both genera."""
    if not _are_ends(value, _LEAST_ENDS, MOST_ENDS):
        raise InvalidEnds("no tuple of two to six integers other than 0 with the sum 0")


def _check_ends_for(value, genus):
    """Raise the errors of values that are no ends and no genus, or no ends for it."""
    _check_ends(value)
    if not is_ends(value, genus):
        raise InvalidEnds("not so many ends for this genus")


def _check_free(ends):
    if _lain_on(ends) != []:
        raise InvalidOperation("the ends lie on a wall")


def is_free(ends):
    """Whether ends lie on no wall."""
    _check_ends(ends)
    return _lain_on(ends) == []


def walls_for(size):
    """The ascending tuple of all walls for so many ends."""
    check_count(size, _LEAST_ENDS, MOST_ENDS)
    found = [(0,)]
    for index in range(1, size):
        found = found + [wall + (index,) for wall in found]
    return tuple(sorted([wall for wall in found if 2 <= len(wall) <= size - 2]))


def _sum_at(ends, wall):
    return sum([ends[index] for index in wall])


def _lain_on(ends):
    """The list of all walls on which ends lie."""
    return [wall for wall in walls_for(len(ends)) if _sum_at(ends, wall) == 0]


def room_of(ends):
    """The signs of free ends, and the walls above which they lie."""
    _check_ends(ends)
    _check_free(ends)
    return _room(ends)


def _room(ends):
    signs = tuple([1 if end > 0 else -1 for end in ends])
    return signs, tuple([wall for wall in walls_for(len(ends)) if _sum_at(ends, wall) > 0])


def are_one_room(one, other):
    """Whether two free ends are in one room."""
    _check_ends(one)
    _check_ends(other)
    _check_free(one)
    _check_free(other)
    return _room(one) == _room(other)


def ends_number(ends, genus):
    """The number of ends for a genus, a fraction."""
    _check_ends_for(ends, genus)
    # On a wall the formulas of all rooms beside it have the same value, so any of them will do.
    told = [(value, Formula.plain(1, end)) for value, end in zip(_near(ends), ends)]
    return _number_of(told, genus).coefficient_at((0,))


def piece(ends, genus):
    """The formula of the room of free ends, in all ends but the last one."""
    _check_ends_for(ends, genus)
    _check_free(ends)
    return _piece_at(_near(ends), genus)


def _piece_at(values, genus):
    """The formula for values that lie in a room."""
    letters = len(values) - 1
    found = _number_of(_lettered(values, letters + genus), genus)
    return Formula(letters, {exponents[:letters]: number for exponents, number in found.terms.items()})


def _lettered(values, letters):
    """Pairs of a value and what stands for it: a letter, for the last one the opposite of all others."""
    forms = [Formula.letter(letters, place) for place in range(len(values) - 1)]
    last = Formula(letters, {})
    for form in forms:
        last = last.minus(form)
    return list(zip(values, forms + [last]))


def _near(ends):
    """Values in the room of ends, or in one beside them, no two sums of some of them being equal."""
    made = [whole_power(5, len(ends)) * end for end in ends]
    for place in range(len(ends) - 1):
        made[place] = made[place] + whole_power(5, place)
        made[-1] = made[-1] - whole_power(5, place)
    return made


# Below, ends are lists of pairs of a value and of a formula that stands for it. The values tell in
# which room all is reckoned; the last letter is free for the strings of a loop.


def _number_of(ends, genus):
    """The number of ends for a genus, as a formula.

    It is told by the last swap: this parts a string into two ends below 0, or joins two strings
    to one of them, and what it leaves are strings that close connected rows of fewer swaps.
    """
    made = Formula(ends[0][1].letters, {})
    below = [at for at, (value, _) in enumerate(ends) if value < 0]
    for at in below:
        for later in below:
            if later > at:
                made = made.plus(_string_number(ends[:at] + ends[at + 1:later] + ends[later + 1:], genus))
        made = made.plus(_joined_number(ends[:at] + ends[at + 1:], genus))
    return made


def _joined_number(ends, genus):
    """The number of ends and a last one, if the last swap joins two strings to it."""
    ahead = 2 * genus + len(ends) - 2
    made = Formula(ends[0][1].letters, {})
    if genus > 0:
        made = _loop_number(ends)
    for here, there in _two_groups(ends):
        for part in range(genus + 1):
            ways = comb(ahead, 2 * part - 1 + len(here))
            made = made.plus(_string_number(here, part).times(_string_number(there, genus - part)).times(ways))
    return made


def _two_groups(ends):
    """All ways to part ends into two groups with sums above 0, whatever their sequence."""
    found = [(ends[:1], [])]
    for end in ends[1:]:
        found = [(here + [end], there) for here, there in found] + [(here, there + [end]) for here, there in found]
    return [(here, there) for here, there in found if _together(here)[0] > 0 and _together(there)[0] > 0]


def _together(ends):
    """The sum of some ends; that of none is a bare 0."""
    if ends == []:
        return 0, 0
    value, form = ends[0]
    for more, other in ends[1:]:
        value, form = value + more, form.plus(other)
    return value, form


def _string_number(ends, genus):
    """The number of ends with a sum above 0 and a string that makes it 0, times the length of this string."""
    value, length = _together(ends)
    if len(ends) == 1 and genus == 0:
        return Formula.plain(length.letters, 1)
    return length.times(_number_of(ends + [(-value, length.times(-1))], genus))


def _loop_number(ends):
    """Half of all numbers of ends and two strings, times both lengths, the strings making the sum 0."""
    whole, length = _together(ends)
    first = Formula.letter(length.letters, length.letters - 1)
    made = Formula(length.letters, {})
    doubled = [(2 * value, form) for value, form in ends]
    spots = _spots_between(ends, whole)
    for (low, start), (high, stop) in zip(spots, spots[1:]):
        # In the middle between both, so that no sum with the length of a string is 0.
        strings = [(-low - high, first.times(-1)), (low + high - 2 * whole, first.minus(length))]
        number = _number_of(doubled + strings, 0).times(first).times(length.minus(first))
        made = made.plus(_summed(number, start, stop))
    return made.times((1, 2))


def _spots_between(ends, most):
    """The sums of some ends, from 0 to the most, ascending: there another formula holds for a string."""
    found = [(0, Formula(ends[0][1].letters, {}))]
    for value, form in ends:
        found = found + [(less + value, other.plus(form)) for less, other in found]
    return sorted([spot for spot in found if 0 <= spot[0] <= most], key=lambda spot: spot[0])


def _summed(formula, low, high):
    """The sum of a formula over all integers above one and up to another one in the place of its last letter."""
    by_power = {}
    for exponents, number in formula.terms.items():
        by_power.setdefault(exponents[-1], {})[exponents[:-1] + (0,)] = number
    made = Formula(formula.letters, {})
    for power, terms in by_power.items():
        sums = _power_sums(power)
        made = made.plus(Formula(formula.letters, terms).times(sums.put_in((high,)).minus(sums.put_in((low,)))))
    return made


def _power_sums(power):
    """The formula for the sum of the powers of all integers from 1 on."""
    points = {}
    for most in range(power + 2):
        points[most] = sum([whole_power(number, power) for number in range(1, most + 1)])
    return fitted(points)


def _only_one_lain_on(ends):
    """The wall on which ends for the genus 0 lie; raises the errors of what is none, or lies not on just one."""
    if not is_ends(ends, 0):
        raise InvalidEnds("no tuple of three to six integers other than 0 with the sum 0")
    walls = _lain_on(ends)
    if len(walls) != 1:
        raise InvalidOperation("the ends do not lie on just one wall")
    return walls[0]


def _beside(ends, wall, sign):
    """Values beside ends on just one wall, above or below it, and in the same proportion nearly."""
    # All other sums are not 0, so a change by 1 does not reach their doubles.
    made = [2 * end for end in ends]
    outside = [index for index in range(len(ends)) if index not in wall][0]
    made[wall[0]] = made[wall[0]] + sign
    made[outside] = made[outside] - sign
    return made


def pieces_beside(ends):
    """The pair of the formulas above and below the only wall on which ends lie, for the genus 0."""
    wall = _only_one_lain_on(ends)
    return _piece_at(_beside(ends, wall, 1), 0), _piece_at(_beside(ends, wall, -1), 0)


def wall_jump(ends):
    """The formula above the only wall on which ends lie less the one below, as a product of lesser numbers."""
    wall = _only_one_lain_on(ends)
    told = _lettered(_beside(ends, wall, 1), len(ends) - 1)
    here = [told[index] for index in wall]
    there = [told[index] for index in range(len(ends)) if index not in wall]
    # The number of the ends of the wall has the length of the string as its factor.
    made = _string_number(here, 0).times(_number_of(there + [_together(here)], 0))
    return made.times(comb(len(ends) - 2, len(wall) - 1))
