"""A desk: named rows of swaps, the pledges that they have to keep, and changes that can be taken back."""

from swapsheets.base.numbers import check_count, is_integer, is_name
from swapsheets.braided.braids import are_braided, led_by
from swapsheets.errors import InvalidCount, InvalidOperation, InvalidPledge, InvalidRow, InvalidSwap
from swapsheets.errors import NothingToUndo, Refused, TooMany, UnknownName
from swapsheets.moving.moves import check_move_of, is_move, is_rising, is_swap, joined_places, kind_of, row_product
from swapsheets.squares.lots import is_lot

MAX_ROWS = 6
MAX_SWAPS = 12
MAX_PLEDGES = 10
_LEAST_SIZE = 2
_MOST_SIZE = 8


class Trial:
    """A block behind which a desk is as it was when the block was entered."""

    def __init__(self, desk):
        self._desk = desk

    def __enter__(self):
        desk = self._desk
        self._rows, self._lines, self._pledges = desk._rows, desk._lines, desk._pledges
        self._behind, self._ahead = list(desk._behind), list(desk._ahead)
        return desk

    def __exit__(self, kind, value, trace):
        desk = self._desk
        desk._rows = self._rows
        desk._lines = self._lines
        desk._pledges = self._pledges
        desk._behind = self._behind
        desk._ahead = self._ahead


class Desk:
    """A number of places, named rows of swaps of these, and pledges. Each change that breaks a pledge is refused."""

    def __init__(self, size):
        check_count(size, _LEAST_SIZE, _MOST_SIZE)
        self._size = size
        # Rows, lines and pledges are never changed, but replaced, so that states can be kept as they are.
        self._rows = {}
        self._lines = ()
        self._pledges = ()
        self._behind = []
        self._ahead = []

    @property
    def size(self):
        """The number of places."""
        return self._size

    @property
    def names(self):
        """The names of all rows, ascending."""
        return tuple(list(self._rows))

    @property
    def lines(self):
        """The lines of all rows, by ascending names."""
        return self._lines

    @property
    def pledges(self):
        """The pledges, in the order of demands."""
        return self._pledges

    @property
    def changes(self):
        """How many changes can be taken back."""
        return len(self._behind)

    def row_named(self, name):
        """The row with a name."""
        if not is_name(name) or name not in self._rows:
            raise UnknownName(name)
        return self._rows[name]

    def put(self, name, row):
        """Put a further row on the desk."""
        self._check_free(name)
        if not isinstance(row, tuple) or not all([is_swap(self._size, swap) for swap in row]):
            raise InvalidRow("no tuple of swaps of so many places")
        return self._put(name, row)

    def chain(self, name, one, other):
        """Put the swaps of one row, and then those of another one, on the desk as a further row."""
        self._check_free(name)
        first = self.row_named(one)
        return self._put(name, first + self.row_named(other))

    def _check_free(self, name):
        if not is_name(name) or name in self._rows:
            raise InvalidOperation("no name that no row of the desk has")

    def _put(self, name, row):
        _check_length(row)
        if len(self._rows) == MAX_ROWS:
            raise TooMany(MAX_ROWS)
        return self._with_row(name, row)

    def swap_in(self, name, place, swap):
        """Put a swap more into a row, ahead of the one at a place, or at the end."""
        row = self.row_named(name)
        check_count(place, 0, len(row))
        if not is_swap(self._size, swap):
            raise InvalidSwap("no swap of so many places")
        longer = row[:place] + (swap,) + row[place:]
        _check_length(longer)
        return self._with_row(name, longer)

    def take_out(self, name, place):
        """Take the swap at a place out of a row."""
        row = self.row_named(name)
        check_count(place, 0, len(row) - 1)
        return self._with_row(name, row[:place] + row[place + 1:])

    def braid(self, name, way):
        """Lead a row by the braid moves of a way."""
        row = self.row_named(name)
        return self._with_row(name, led_by(self._size, row, way))

    def turn(self, name, move):
        """Put the places to which a move leads in the place of those of all swaps of a row."""
        row = self.row_named(name)
        check_move_of(self._size, move)
        turned = [tuple(sorted([move[low], move[high]])) for low, high in row]
        return self._with_row(name, tuple(turned))

    def drop(self, name):
        """Take a row off the desk."""
        self.row_named(name)
        left = {other: self._rows[other] for other in self._rows if other != name}
        return self._change(left, self._pledges)

    def rename(self, names):
        """Give the rows other names, by a dict from all names on the desk."""
        if not self._are_new_names(names):
            raise InvalidOperation("no dict from the names on the desk to names")
        renamed = {names[name]: self._rows[name] for name in self._rows}
        return self._change(_ascending(renamed), self._pledges)

    def _are_new_names(self, value):
        if not isinstance(value, dict) or len(value) != len(self._rows):
            return False
        if not all([name in value for name in self._rows]) or not all([is_name(value[name]) for name in value]):
            return False
        return len({value[name] for name in value}) == len(value)

    def demand(self, pledge):
        """Have a further pledge kept from now on."""
        if not is_pledge(pledge):
            raise InvalidPledge("no pledge")
        if self._has_pledge(pledge):
            raise InvalidOperation("the pledge is there already")
        if len(self._pledges) == MAX_PLEDGES:
            raise TooMany(MAX_PLEDGES)
        return self._change(self._rows, self._pledges + (pledge,))

    def waive(self, pledge):
        """Have a pledge kept no more."""
        if not self._has_pledge(pledge):
            raise InvalidOperation("the pledge is not there")
        return self._change(self._rows, tuple([other for other in self._pledges if other != pledge]))

    def _has_pledge(self, value):
        # True equals 1, and what has it in its place is no pledge of the desk.
        return is_pledge(value) and value in self._pledges

    def undo(self, *, many=1):
        """Take back so many changes."""
        return self._go_along(many, self._behind, self._ahead)

    def redo(self, *, many=1):
        """Do so many changes again."""
        return self._go_along(many, self._ahead, self._behind)

    def _go_along(self, many, source, target):
        """Take over so many of the states that are kept at one side, and keep those ahead of them at the other one."""
        _check_steps(many, source)
        lines = self._lines
        for _ in range(many):
            target.append((self._rows, self._pledges))
            self._show(source.pop())
        return _news(lines, self._lines)

    def trial(self):
        """What gives the desk to a block, behind which it is as it was."""
        return Trial(self)

    def during(self, call):
        """What a function returns for the desk, which is behind it as it was."""
        with self.trial() as same:
            return call(same)

    def twin(self):
        """An independent copy, with all that can be taken back and done again."""
        other = Desk(self._size)
        other._rows, other._lines, other._pledges = self._rows, self._lines, self._pledges
        other._behind, other._ahead = list(self._behind), list(self._ahead)
        return other

    def _with_row(self, name, row):
        """Make the change to a row, a further one or another one in its place."""
        rows = {other: self._rows[other] for other in self._rows}
        rows[name] = row
        return self._change(_ascending(rows), self._pledges)

    def _change(self, rows, pledges):
        """Make a change that breaks no pledge, and return its news."""
        for pledge in pledges:
            if not _holds(self._size, rows, pledge):
                raise Refused(pledge)
        lines = self._lines
        self._behind.append((self._rows, self._pledges))
        self._ahead = []
        self._show((rows, pledges))
        return _news(lines, self._lines)

    def _show(self, state):
        self._rows, self._pledges = state
        self._lines = tuple([_line(self._size, name, row) for name, row in self._rows.items()])

    def __contains__(self, x):
        if isinstance(x, str):
            return x in self._lines
        return self._has_pledge(x)

    def __iter__(self):
        return iter(self._lines)

    def __len__(self):
        return len(self._pledges)

    def __eq__(self, other):
        if not isinstance(other, Desk) or self._size != other._size:
            return False
        return self._rows == other._rows and self._pledges == other._pledges

    def __str__(self):
        return f"desk of {self._size} places, {len(self._rows)} rows, {len(self._pledges)} pledges"


def is_pledge(value):
    """Whether the value is a pledge, whatever the desk."""
    if not isinstance(value, tuple) or not 2 <= len(value) <= 3 or not is_name(value[1]):
        return False
    word = value[0]
    if len(value) == 2:
        return word in ("rising", "linked")
    if word == "product":
        return is_move(value[2])
    if word == "kind":
        return is_lot(value[2])
    return word == "led" and is_name(value[2])


def _holds(size, rows, pledge):
    """Whether a pledge holds for the dict from names to rows."""
    told = [rows.get(name) for name in _names_in(pledge)]
    if None in told:
        return False
    word, row = pledge[0], told[0]
    if word == "product":
        return row_product(size, row) == pledge[2]
    if word == "kind":
        return kind_of(row_product(size, row)) == pledge[2]
    if word == "rising":
        return is_rising(size, row)
    if word == "linked":
        return len(joined_places(size, row)) == 1
    return are_braided(size, row, told[1])


def _names_in(pledge):
    return pledge[1:] if pledge[0] == "led" else pledge[1:2]


def _check_length(row):
    if len(row) > MAX_SWAPS:
        raise TooMany(MAX_SWAPS)


def _check_steps(many, kept):
    """Raise the error of a number of changes, of which so many are kept."""
    if not is_integer(many) or many < 0:
        raise InvalidCount(many)
    if many > len(kept):
        raise NothingToUndo(many)


def _ascending(rows):
    return {name: rows[name] for name in sorted(list(rows))}


def _line(size, name, row):
    swaps = " ".join([f"{low}-{high}" for low, high in row]) if row else "none"
    members = " ".join([str(member) for member in kind_of(row_product(size, row))])
    return f"{name}: {swaps} makes {members}"


def _news(old, new):
    """The lines that are there no more, and those that were not there before, both ascending."""
    gone = [line for line in old if line not in new]
    come = [line for line in new if line not in old]
    return tuple(sorted(gone)), tuple(sorted(come))
