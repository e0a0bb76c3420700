"""Connected numbers: rows of swaps that join all places, with numbered ends."""

from math import comb

from swapsheets.base.numbers import check_count, factorial, reduced, whole_power
from swapsheets.charts.characters import character_products
from swapsheets.errors import InvalidLot, InvalidRow, TooMany
from swapsheets.moving.moves import behind_swap, check_move, check_word, is_row, joined_places, kind_of, row_number
from swapsheets.moving.moves import swaps_of
from swapsheets.rising.weights import weighted_number, word_sums
from swapsheets.squares.lots import check_filled_lot, check_lots, check_sum, contents, is_lot, lot_without, lots_within
from swapsheets.squares.lots import renamings

MAX_ENDS = 10
MAX_LINKED = 14
MOST_LINKED = 60
MAX_TRIED = 20000
_MOST_GENUS = 20


def genus_of(one, other, many):
    """The genus of two lots and a number of swaps, None if it is no integer."""
    _check_ends(one, other)
    check_count(many, 0, MOST_LINKED)
    twice = many + 2 - len(one) - len(other)
    return twice // 2 if twice % 2 == 0 else None


def swaps_of_genus(one, other, genus):
    """The number of swaps of two lots and a genus."""
    _check_ends(one, other)
    check_count(genus, 0, _MOST_GENUS)
    return 2 * genus - 2 + len(one) + len(other)


def _check_ends(one, other):
    check_filled_lot(one)
    check_filled_lot(other)
    check_lots(one, other)


def numbered_number(one, other, many, *, word="all"):
    """The number of rows of a word between moves of two kinds, for numbered ends: a fraction."""
    _check_numbered(one, other, many, word)
    top, bottom = weighted_number(one, other, many, word)
    return reduced(top * renamings(one) * renamings(other), bottom)


def linked_number(one, other, many, *, word="all"):
    """The number of rows of a word that join all places, for numbered ends: a fraction."""
    _check_numbered(one, other, many, word)
    linked = _linked_rows(_numbered_rows(one, other, many, word), word)
    return _with_members_out(one, other, linked[one, other][many])


def numbered_from_linked(one, other, many, *, word="all"):
    """The numbered number, reckoned from the linked numbers of all pieces: a fraction."""
    _check_numbered(one, other, many, word)
    linked = _linked_rows(_numbered_rows(one, other, many, word), word)
    found = {}
    for pair, row in linked.items():
        found[pair] = _with_shares(pair, row, 1, linked, found, word)
    return _with_members_out(one, other, found[one, other][many])


def _check_numbered(one, other, many, word):
    _check_ends(one, other)
    check_count(many, 0, MOST_LINKED)
    check_word(word)
    check_sum(one, MAX_LINKED)
    if len(one) + len(other) > MAX_ENDS:
        raise TooMany(MAX_ENDS)


# Below, each number is multiplied by all members of both lots. So it is an integer, and as the
# members of two lots are those of all their pieces, shares stay products of the numbers of pieces.


def _with_members_out(one, other, number):
    bottom = 1
    for member in one + other:
        bottom = bottom * member
    return reduced(number, bottom)


def _numbered_rows(one, other, most, word):
    """The dict from all pieces to their numbered numbers, a list for each number of swaps up to the last."""
    factors, found = {}, {}
    for here, there in _pieces(one, other):
        row = [0] * (most + 1)
        for shape, product in character_products(here, there).items():
            if shape not in factors:
                factors[shape] = word_sums(contents(shape), most, word)
            row = [number + product * factor for number, factor in zip(row, factors[shape])]
        found[here, there] = row
    return found


def _pieces(one, other):
    """All pairs of lots of some members of either lot, with one sum above 0, lesser sums first."""
    theirs = lots_within(other)
    found = [(sum(here), here, there) for here in lots_within(one) for there in theirs if sum(here) == sum(there)]
    return [(here, there) for total, here, there in sorted(found) if total > 0]


def _linked_rows(numbered, word):
    """The dict from all pieces to their linked numbers, out of such a dict of the numbered ones."""
    linked = {}
    for pair, row in numbered.items():
        linked[pair] = _with_shares(pair, row, -1, linked, numbered, word)
    return linked


def _with_shares(pair, row, sign, linked, numbered, word):
    """A row, and so many times the shares of all ways to part a pair into two pieces or more.

    The piece of the first end is linked, and what is left over is parted in any way. Both dicts must
    have all lesser pieces.
    """
    one, other = pair
    made = row
    for here, there in linked:
        if (here, there) != pair and here[0] == one[0]:
            ways = _choices(one[1:], here[1:]) * _choices(other, there)
            if ways > 0:
                rest = numbered[lot_without(one, here), lot_without(other, there)]
                shares = shared_swaps(linked[here, there], rest, word)
                made = [number + sign * ways * share for number, share in zip(made, shares)]
    return made


def _choices(lot, part):
    """In how many ways these members can be taken out of a lot of numbered ones."""
    made = 1
    for member in sorted(set(part)):
        made = made * comb(lot.count(member), part.count(member))
    return made


def shared_swaps(linked, rest, word):
    """For each number of swaps the sum of the products of both numbers, over all ways to part the swaps."""
    made = []
    for many in range(len(rest)):
        total = 0
        for here in range(many + 1):
            if linked[here] != 0:
                ways = comb(many, here) if word == "all" else 1
                total = total + ways * linked[here] * rest[many - here]
        made.append(total)
    return made


def single_number(lot):
    """The linked number of a lot and as many ones, for the genus 0: a fraction."""
    check_filled_lot(lot)
    total = sum(lot)
    top, bottom = factorial(total + len(lot) - 2) * factorial(total), 1
    for member in lot:
        top = top * whole_power(member, member)
        bottom = bottom * factorial(member)
    if len(lot) >= 3:
        return reduced(top * whole_power(total, len(lot) - 3), bottom)
    return reduced(top, bottom * whole_power(total, 3 - len(lot)))


def rising_single_number(lot):
    """The linked number for rising rows of a lot and as many ones, for the genus 0: a fraction."""
    check_filled_lot(lot)
    total = sum(lot)
    top, bottom = factorial(total), 1
    for member in lot:
        top = top * comb(2 * member, member)
    for more in range(1, len(lot) - 2):
        top = top * (2 * total + more)
    for less in range(max(3 - len(lot), 0)):
        bottom = bottom * (2 * total - less)
    return reduced(top, bottom)


def linked_rows(move, lot, many):
    """All rows of so many swaps that are linked with a move and lead it to a kind, ascending."""
    check_move(move)
    if not is_lot(lot) or sum(lot) != len(move):
        raise InvalidLot("no lot of so many places")
    check_count(many, 0, MOST_LINKED)
    if row_number(len(move), many, "all") > MAX_TRIED:
        raise TooMany(MAX_TRIED)
    swaps = swaps_of(len(move))
    waiting = [((), move)]
    while waiting:
        row, product = waiting.pop()
        if len(row) < many:
            # The least swap is put last, as it is to be taken first.
            waiting.extend([(row + (swap,), behind_swap(product, swap)) for swap in swaps[::-1]])
        elif kind_of(product) == lot and _joins_all(move, row):
            yield row


def is_linked(move, row):
    """Whether a move and a row join all places."""
    check_move(move)
    if not is_row(len(move), row):
        raise InvalidRow("no row of so many places")
    return _joins_all(move, row)


def _joins_all(move, row):
    return len(joined_places(len(move), list(enumerate(move)) + list(row))) == 1
