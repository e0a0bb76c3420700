"""Tales of strings: how strings are joined and parted, step by step."""

from swapsheets.base.numbers import check_count, is_count, reduced, sum_of
from swapsheets.errors import InvalidEnds, InvalidLot, InvalidOperation, InvalidRow, TooMany
from swapsheets.moving.moves import behind_swap, check_move, cycles, is_row
from swapsheets.squares.lots import check_lots, is_lot, lots, renamings, sorted_lot
from swapsheets.walking.walks import joinings, partings

MOST_STEPS = 12
MOST_TALES = 20000
_MOST_LENGTH = 10


class Tale:
    """Strings that are joined and parted by steps, and the names of the last ones. It never changes."""

    def __init__(self, lot, steps, ends):
        _check_told(lot)
        states = _states_behind(lot, steps)
        if states == []:
            raise InvalidOperation("no tuple of at most twelve steps that can be done")
        if not _are_ends(states[-1], ends):
            raise InvalidEnds("no tuple of the names of all last strings, longer ones first")
        self._lot = lot
        self._last = _lot_of(states[-1])
        self._steps = steps
        self._ends = ends
        self._states = tuple(states)
        self._lengths = _all_lengths(states)
        self._weight = _weight_of(steps, states)
        self._linked = _hang_together(steps, states)

    @property
    def first_lot(self):
        """The lot of the lengths of the first strings."""
        return self._lot

    @property
    def last_lot(self):
        """The lot of the lengths of the last strings."""
        return self._last

    @property
    def steps(self):
        """The tuple of the steps."""
        return self._steps

    @property
    def ends(self):
        """The names of the last strings, in the sequence of the last lot."""
        return self._ends

    @property
    def lengths(self):
        """The lengths of all strings, by their names."""
        return self._lengths

    @property
    def weight(self):
        """The weight, a fraction."""
        return self._weight

    @property
    def is_linked(self):
        """Whether all strings hang together."""
        return self._linked

    @property
    def genus(self):
        """The genus, None unless all strings hang together."""
        if not self._linked:
            return None
        return (len(self._steps) + 2 - len(self._lot) - len(self._last)) // 2

    def lot_behind(self, many):
        """The lot of the lengths of the strings that are there behind so many steps."""
        check_count(many, 0, len(self._steps))
        return _lot_of(self._states[many])

    def __eq__(self, other):
        return (isinstance(other, Tale) and self._lot == other._lot and self._steps == other._steps
                and self._ends == other._ends)

    def __len__(self):
        return len(self._steps)

    def __str__(self):
        return f"tale of {_lot_text(self._lot)} to {_lot_text(self._last)}, {len(self._steps)} steps"


def _lot_text(lot):
    members = ", ".join([str(member) for member in lot])
    return f"({members})"


def _check_told(lot):
    if not is_lot(lot) or not 1 <= sum(lot) <= _MOST_LENGTH:
        raise InvalidLot("no lot with a sum from 1 to 10")


# A state is the tuple of the lengths of all strings made so far, by their names, with 0 for
# those that are used up.


def _lot_of(state):
    return sorted_lot([length for length in state if length > 0])


def _states_behind(lot, steps):
    """The states behind no step, one step, and so on; [] if the steps cannot be done."""
    if not isinstance(steps, tuple) or len(steps) > MOST_STEPS:
        return []
    states = [lot]
    for step in steps:
        if not _is_step(states[-1], step):
            return []
        states.append(_behind_step(states[-1], step))
    return states


def _is_step(state, value):
    if not isinstance(value, tuple) or len(value) != 3:
        return False
    word, name, by = value
    if not is_count(name, 0, len(state) - 1) or state[name] == 0:
        return False
    if word == "join":
        return is_count(by, name + 1, len(state) - 1) and state[by] > 0
    return word == "part" and is_count(by, 1, state[name] - 1)


def _behind_step(state, step):
    word, name, by = step
    names = _names_used(step)
    made = (by, state[name] - by) if word == "part" else (state[name] + state[by],)
    return tuple([0 if at in names else length for at, length in enumerate(state)]) + made


def _names_used(step):
    """The names of the strings that a step uses up."""
    word, name, by = step
    return (name,) if word == "part" else (name, by)


def _are_ends(state, value):
    if not isinstance(value, tuple) or not all([is_count(name, 0, len(state) - 1) for name in value]):
        return False
    return len(set(value)) == len(value) and tuple([state[name] for name in value]) == _lot_of(state)


def _all_lengths(states):
    """The lengths of all strings, by their names, as they were when they were made."""
    found = ()
    for state in states:
        found = found + state[len(found):]
    return found


def _weight_of(steps, states):
    top, bottom = 1, 1
    for step in steps:
        if step[0] == "part":
            bottom = bottom * 2
    for name, length in enumerate(_all_lengths(states)):
        is_first, is_last = name < len(states[0]), states[-1][name] > 0
        if is_first and is_last:
            bottom = bottom * length
        elif not is_first and not is_last:
            top = top * length
    return reduced(top, bottom)


def _hang_together(steps, states):
    """Whether all strings hang together."""
    marks = list(range(len(states[-1])))
    for step, ahead, behind in zip(steps, states, states[1:]):
        touched = [marks[name] for name in _names_used(step) + tuple(range(len(ahead), len(behind)))]
        marks = [touched[0] if mark in touched else mark for mark in marks]
    return min(marks) == max(marks)


def tales(one, other, many):
    """All tales of so many steps from one lot to another one, ascending by their steps and ends."""
    _check_not_too_many(one, other, many)
    for steps, states in _stories(one, other, many):
        for ends in _all_ends(states[-1], other):
            yield Tale(one, steps, ends)


def tales_number(one, other, many):
    """How many tales of so many steps there are from one lot to another one."""
    _check_tales(one, other, many)
    return _ways_to(other, many)[many][one] * renamings(other)


def _check_tales(one, other, many):
    _check_told(one)
    _check_told(other)
    check_lots(one, other)
    check_count(many, 0, MOST_STEPS)


def _check_not_too_many(one, other, many):
    """Raise the errors of values that tell no number of tales, and of too many tales."""
    if tales_number(one, other, many) > MOST_TALES:
        raise TooMany(MOST_TALES)


def _ways_to(lot, most):
    """For each number of steps up to the last one the dict from all lots to how often they lead to a lot."""
    order = lots(sum(lot))
    targets = {start: [way[2] for way in joinings(start) + partings(start)] for start in order}
    ways = [{start: int(start == lot) for start in order}]
    for many in range(most):
        ways.append({start: sum([ways[many][target] for target in targets[start]]) for start in order})
    return ways


def _stories(one, other, many):
    """All steps, so many, that lead from one lot to another one, ascending, with the states behind them."""
    ways = _ways_to(other, many)
    waiting = [((), (one,))] if ways[many][one] > 0 else []
    while waiting:
        steps, states = waiting.pop()
        if len(steps) == many:
            yield steps, states
        else:
            # The least step is put last, as it is to be taken first.
            for step in _steps_from(states[-1])[::-1]:
                state = _behind_step(states[-1], step)
                if ways[many - len(steps) - 1][_lot_of(state)] > 0:
                    waiting.append((steps + (step,), states + (state,)))


def _steps_from(state):
    """All steps that can be done, ascending."""
    names = [name for name, length in enumerate(state) if length > 0]
    found = [("join", name, other) for name in names for other in names if name < other]
    return found + [("part", name, first) for name in names for first in range(1, state[name])]


def _all_ends(state, lot):
    """All ends, ascending."""
    found = [()]
    for member in lot:
        fitting = [name for name, length in enumerate(state) if length == member]
        found = [ends + (name,) for ends in found for name in fitting if name not in ends]
    return found


def tales_sum(one, other, many):
    """The sum of the weights of all tales: a fraction."""
    _check_not_too_many(one, other, many)
    return _sum_of_weights([_weight_of(steps, states) for steps, states in _stories(one, other, many)], other)


def linked_sum(one, other, many):
    """The sum of the weights of all tales whose strings hang together: a fraction."""
    _check_not_too_many(one, other, many)
    stories = list(_stories(one, other, many))
    linked = [(steps, states) for steps, states in stories if _hang_together(steps, states)]
    return _sum_of_weights([_weight_of(steps, states) for steps, states in linked], other)


def _sum_of_weights(weights, lot):
    """The sum of weights, each one for all ends of a lot."""
    total = (0, 1)
    for top, bottom in weights:
        total = sum_of(total, (top * renamings(lot), bottom))
    return total


def tale_of(move, row):
    """The tale that a move and a row of swaps behind it tell."""
    check_move(move)
    if not is_row(len(move), row):
        raise InvalidRow("no row of so many places")
    if len(move) > _MOST_LENGTH:
        raise TooMany(_MOST_LENGTH)
    if len(row) > MOST_STEPS:
        raise TooMany(MOST_STEPS)
    first = sorted([(-len(cycle), cycle[0], cycle) for cycle in cycles(move)])
    strings = [cycle for _, _, cycle in first]
    lot, steps, product = tuple([len(cycle) for cycle in strings]), [], move
    for swap in row:
        product = behind_swap(product, swap)
        steps.append(_told_step(strings, product, swap))
    last = sorted([(-len(cycle), cycle[0], name) for name, cycle in enumerate(strings) if cycle != ()])
    return Tale(lot, tuple(steps), tuple([name for _, _, name in last]))


def _told_step(strings, product, swap):
    """The step that a swap tells, if it makes this product; the strings, cycles or (), go on with it."""
    names = sorted(set([name for name, cycle in enumerate(strings) for place in swap if place in cycle]))
    around = cycles(product)
    made = [[cycle for cycle in around if place in cycle][0] for place in swap]
    for name in names:
        strings[name] = ()
    if len(names) == 1:
        strings.extend(made)
        return ("part", names[0], len(made[0]))
    strings.append(made[0])
    return ("join", names[0], names[1])
