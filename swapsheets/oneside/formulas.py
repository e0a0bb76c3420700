"""Rows with a single cycle at one side: entries, formulas, and numbers with one swap less."""

from swapsheets.base.formulas import Formula
from swapsheets.base.numbers import check_count, factorial, is_fraction, is_integer, product_of, reduced, sum_of
from swapsheets.base.numbers import whole_power
from swapsheets.errors import InvalidOperation
from swapsheets.squares.lots import check_filled_lot, is_lot
from swapsheets.walking.walks import joinings, partings

MAX_SUM = 24
MAX_GENUS = 20
MAX_TOLD = 6
_MOST_GENUS = 3
_MOST_ENDS = 4


def sheet_series(most):
    """The entries of the logarithm of the series S [13.2], from the first one to the last one."""
    check_count(most, 1, MAX_GENUS)
    return _sheet_entries(most)[1:]


def _sheet_entries(most):
    """The entries of the logarithm of the series S, with 0 ahead of the first one."""
    found = ((0, 1),)
    for many in range(1, most + 1):
        # The derived series is the one of the logarithm, times the series.
        left = _series_entry(many)
        for less in range(1, many):
            top, bottom = product_of(found[less], _series_entry(many - less))
            left = sum_of(left, (-less * top, many * bottom))
        found = found + (left,)
    return found


def _series_entry(many):
    """The entry of the series S at the power 2 * many."""
    return 1, whole_power(4, many) * factorial(2 * many + 1)


def one_side_entry(lot, genus):
    """The entry e of a lot and a genus: a fraction."""
    check_filled_lot(lot)
    check_count(genus, 0, MAX_GENUS)
    parts = []
    for at, entry in enumerate(_sheet_entries(genus)[1:], 1):
        power_sum = sum([whole_power(member, 2 * at) for member in lot])
        parts.append(Formula.plain(1, product_of(entry, (power_sum - 1, 1))))
    return _exponential(1, parts).coefficient_at((0,))


def _exponential(letters, parts):
    """The last entry of the exponential of a series without a first entry, of formulas."""
    made = [Formula.plain(letters, 1)]
    for many in range(1, len(parts) + 1):
        # The derived exponential is the derived series, times the exponential.
        total = Formula(letters, {})
        for power in range(1, many + 1):
            share = parts[power - 1].times(reduced(power, many))
            total = total.plus(share.times(made[many - power]))
        made.append(total)
    return made[-1]


def one_side_number(lot, genus):
    """The connected number of the lot and the one with a single member, for a genus: a fraction."""
    top, bottom = one_side_entry(lot, genus)
    many = _swaps(lot, genus)
    shared = top * factorial(many)
    if many == 0:
        return reduced(shared, bottom * sum(lot))
    return reduced(shared * whole_power(sum(lot), many - 1), bottom)


def _swaps(lot, genus):
    return 2 * genus - 1 + len(lot)


def one_side_formula(genus):
    """The formula of the entry in the sums of the even powers of all members."""
    check_count(genus, 1, MAX_TOLD)
    parts = []
    for place, entry in enumerate(sheet_series(genus)):
        parts.append(Formula.letter(genus, place).minus(1).times(entry))
    return _exponential(genus, parts)


def one_side_in_ends(genus, ends):
    """The formula of the connected number in the members of the lot."""
    check_count(genus, 0, _MOST_GENUS)
    check_count(ends, 1, _MOST_ENDS)
    if (genus, ends) == (0, 1):
        raise InvalidOperation("the number of one member is none of a formula")
    made = Formula.plain(ends, 1)
    if genus > 0:
        sums = [_sum_of_powers(ends, 2 * power) for power in range(1, genus + 1)]
        made = one_side_formula(genus).put_in(tuple(sums))
    many = 2 * genus - 1 + ends
    return made.times(_sum_of_powers(ends, 1).raised(many - 1)).times(factorial(many))


def _sum_of_powers(letters, power):
    """The sum of the powers of all letters with an exponent."""
    made = Formula(letters, {})
    for place in range(letters):
        made = made.plus(Formula.letter(letters, place).raised(power))
    return made


def round_rows(size, genus):
    """The number of rows of size - 1 + 2 * genus swaps whose product is a told move with one cycle."""
    check_count(size, 1, MAX_SUM)
    top, bottom = one_side_number((1,) * size, genus)
    return top // (bottom * factorial(size - 1))


def one_swap_less(lot, genus):
    """The triples (genus, lot, factor) whose numbers add up to that of a lot and a genus."""
    check_filled_lot(lot)
    check_count(genus, 0, MAX_GENUS)
    if _swaps(lot, genus) == 0:
        raise InvalidOperation("there is no swap")
    factors = {}
    for one, other, target in joinings(lot):
        factors[genus, target] = factors.get((genus, target), 0) + 2 * (one + other)
    if genus > 0:
        for member, part, target in partings(lot):
            factors[genus - 1, target] = factors.get((genus - 1, target), 0) + part * (member - part)
    # Twice each factor is an integer.
    return tuple([(here, target, reduced(factors[here, target], 2)) for here, target in sorted(list(factors))])


def is_one_swap_less(lot, genus, value):
    """Whether the value is the tuple of triples that tells the sum of one swap less."""
    wanted = one_swap_less(lot, genus)
    if not isinstance(value, tuple) or not all([_is_triple(triple) for triple in value]):
        return False
    return value == wanted


def _is_triple(value):
    if not isinstance(value, tuple) or len(value) != 3:
        return False
    # True equals 1, and is none of these.
    return is_integer(value[0]) and is_lot(value[1]) and is_fraction(value[2])
