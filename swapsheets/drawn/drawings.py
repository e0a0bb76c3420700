"""Drawings: moves of a few places in a row, the same but for the names of the places, or not."""

from swapsheets.base.numbers import check_count
from swapsheets.errors import InvalidDrawing, InvalidOperation
from swapsheets.moving.moves import are_moves, behind, cycles, idle_move, is_move, kind_of
from swapsheets.moving.moves import places_of_moves, renamed, undone

MAX_DRAWN = 8
MAX_MOVES = 5


class Drawing:
    """Moves of one number of places in a row. It never changes."""

    def __init__(self, moves):
        if not are_moves(moves, MAX_MOVES) or len(moves[0]) > MAX_DRAWN:
            raise InvalidDrawing("no tuple of 1 to 5 moves of one size from 1 to 8")
        made = idle_move(len(moves[0]))
        for move in moves:
            made = behind(made, move)
        # Not a property, as no method may have the name of a generator.
        self.moves = moves
        self._closing = undone(made)
        self._kinds = tuple([kind_of(move) for move in moves + (self._closing,)])
        self._pieces = places_of_moves(moves)
        self._genera = _genera_of(moves + (self._closing,), self._pieces)

    @property
    def size(self):
        """How many places the drawing has."""
        return len(self.moves[0])

    @property
    def closing(self):
        """The move that takes back what all moves make."""
        return self._closing

    @property
    def kinds(self):
        """The kinds of all moves and of the closing one."""
        return self._kinds

    @property
    def pieces(self):
        """The least lots of places that all moves keep, ascending."""
        return self._pieces

    @property
    def genera(self):
        """The genera of all pieces, in their sequence."""
        return self._genera

    @property
    def is_joined(self):
        """Whether there is just one piece."""
        return len(self._pieces) == 1

    def renamed(self, move):
        """The drawing with other names of the places."""
        return _renamed_by(self, move)

    def mirrored(self):
        """The drawing of all moves, each taken back, in the opposite sequence."""
        return Drawing(tuple([undone(move) for move in self.moves[::-1]]))

    def rotated(self):
        """The drawing of all moves from the second one to the closing one."""
        return Drawing(self.moves[1:] + (self._closing,))

    def exchanged(self, place):
        """The drawing with the move behind a place led ahead of the one at this place."""
        check_count(place, 0, len(self.moves) - 2)
        first, second = self.moves[place], self.moves[place + 1]
        # A move, then another one, then the first one taken back is the other one, renamed.
        led = renamed(second, undone(first))
        return Drawing(self.moves[:place] + (led, first) + self.moves[place + 2:])

    def named_from(self, root):
        """The drawing with the new names that all places of a joined drawing get from a root."""
        check_count(root, 0, self.size - 1)
        if not self.is_joined:
            raise InvalidOperation("the drawing is in pieces")
        return _renamed_by(self, undone(_order_from(self.moves, root)))

    def __eq__(self, other):
        return isinstance(other, Drawing) and self.moves == other.moves

    def __str__(self):
        texts = ["+".join([str(member) for member in lot]) for lot in self._kinds]
        return f"drawing of {self.size} places, kinds {' '.join(texts)}"


def _genera_of(told, pieces):
    """The genera of pieces of moves, the closing one being the last of these."""
    marks = {place: at for at, places in enumerate(pieces) for place in places}
    around = [0] * len(pieces)
    for move in told:
        for cycle in cycles(move):
            around[marks[cycle[0]]] += 1
    found = []
    for places, many in zip(pieces, around):
        found.append((2 - many + (len(told) - 2) * len(places)) // 2)
    return tuple(found)


def _renamed_by(drawing, move):
    return Drawing(tuple([renamed(one, move) for one in drawing.moves]))


def _order_from(told, root):
    """The places of the piece of a root, in the sequence in which they get new names."""
    order, at = [root], 0
    while at < len(order):
        for move in told:
            if move[order[at]] not in order:
                order.append(move[order[at]])
        at += 1
    return tuple(order)


def _form_from(told, root):
    """What moves do with the new names of the piece of a root, and the places in their sequence."""
    order = _order_from(told, root)
    names = {place: name for name, place in enumerate(order)}
    return tuple([tuple([names[move[place]] for place in order]) for move in told]), order


def _check_drawings(one, other):
    for drawing in (one, other):
        _check_drawing(drawing)


def _check_drawing(value):
    if not isinstance(value, Drawing):
        raise InvalidDrawing("no drawing")


def are_alike(one, other):
    """Whether one drawing is the other one, renamed."""
    return any_renaming(one, other) is not None


def any_renaming(one, other):
    """A move by which one drawing, renamed, is the other one, None if there is none."""
    _check_drawings(one, other)
    if one.size != other.size or len(one.moves) != len(other.moves):
        return None
    made, free = [0] * one.size, list(other.pieces)
    for places in one.pieces:
        form, order = _form_from(one.moves, places[0])
        found = [(target, ends) for target in free for ends in _orders_with(other.moves, target, form)]
        if found == []:
            return None
        # Pieces that fit one piece all fit each other, so any of them will do.
        target, ends = found[0]
        free.remove(target)
        for place, end in zip(order, ends):
            made[place] = end
    return tuple(made)


def _orders_with(told, places, form):
    """The sequences of new names of a piece, from all of its roots that show a form."""
    found = [_form_from(told, root) for root in places]
    return [order for shown, order in found if shown == form]


def is_renaming(one, other, value):
    """Whether the value is a move by which one drawing, renamed, is the other one."""
    _check_drawings(one, other)
    if not is_move(value) or len(value) != one.size:
        return False
    return _renamed_by(one, value) == other


def own_renamings(drawing):
    """How many renamings leave the drawing as it is."""
    _check_drawing(drawing)
    made, seen = 1, []
    for places in drawing.pieces:
        forms = [_form_from(drawing.moves, root)[0] for root in places]
        seen.append(min(forms))
        # A piece is led to itself in some ways, and the k-th one of k alike brings the factor k.
        made = made * forms.count(forms[0]) * seen.count(min(forms))
    return made
