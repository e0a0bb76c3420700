"""Covers of a torus: their numbers, for all degrees at once by formulas in three series."""

from swapsheets.base.formulas import MOST_EXPONENT, MOST_TERMS, Formula
from swapsheets.base.numbers import check_count, is_count, is_fraction, product_of, reduced, series_times
from swapsheets.base.numbers import shared_multiple, sum_of, whole_power
from swapsheets.base.solving import solution
from swapsheets.errors import InvalidCount, InvalidFormula, InvalidOperation, Refused, TooMany, UnknownName
from swapsheets.linked.numbers import shared_swaps
from swapsheets.squares.lots import content_sum, lots

MAX_COVERED = 14
MOST_SWAPS = 12
MOST_ENTRIES = 40
_LETTERS = 3
_MOST_WEIGHT = 24
# For each series the factor of the sums of powers of divisors, and the exponent of these powers.
_SERIES = {"P": (-24, 1), "Q": (240, 3), "R": (-504, 5)}
_WEIGHTS = (2, 4, 6)


def cover_number(total, many):
    """The number of covers of a degree with so many swaps, divided by d!: an integer."""
    _check_cover(total, many)
    return _cover_numbers(total, many)[many]


def linked_cover_number(total, many):
    """The number of covers that join all places, divided by d!: a fraction."""
    _check_cover(total, many)
    return reduced(_linked_tops(total, many)[total][many], total)


def _check_cover(total, many):
    check_count(total, 1, MAX_COVERED)
    check_count(many, 0, MOST_SWAPS)


def _cover_numbers(total, most):
    """The list of the numbers of covers of a degree for each number of swaps up to the last."""
    sums = [content_sum(shape) for shape in lots(total)]
    return [sum([whole_power(spot, many) for spot in sums]) for many in range(most + 1)]


def _linked_tops(total, most):
    """For each degree up to the last the list of the numbers of linked covers, times the degree."""
    whole = [_cover_numbers(degree, most) for degree in range(total + 1)]
    found = [[0] * (most + 1)]
    for degree in range(1, total + 1):
        row = [degree * number for number in whole[degree]]
        for less in range(1, degree):
            shares = shared_swaps(found[less], whole[degree - less], "all")
            row = [number - share for number, share in zip(row, shares)]
        found.append(row)
    return found


def torus_formula(genus):
    """The formula whose series has the numbers of linked covers of all degrees for a genus."""
    check_count(genus, 2, 3)
    many, weight = 2 * genus - 2, 6 * genus - 6
    tops = _linked_tops(len(_exponents_of(weight)), many)
    row = ((0, 1),) + tuple([reduced(tops[degree][many], degree) for degree in range(1, len(tops))])
    return formula_of_row(row, weight)


def basic_series(letter, most):
    """One of the series P, Q and R up to a power, a power row."""
    if letter not in list(_SERIES):
        raise UnknownName(letter)
    check_count(most, 0, MOST_ENTRIES)
    return tuple([(number, 1) for number in _basic_numbers(letter, most)])


def _basic_numbers(letter, most):
    factor, exponent = _SERIES[letter]
    found = [1]
    for power in range(1, most + 1):
        divisors = [divisor for divisor in range(1, power + 1) if power % divisor == 0]
        found.append(factor * sum([whole_power(divisor, exponent) for divisor in divisors]))
    return found


def series_of(formula, most):
    """The power row of a formula with the series P, Q and R in the place of its letters."""
    _check_formula(formula)
    check_count(most, 0, MOST_ENTRIES)
    terms = formula.terms
    bottom = shared_multiple([low for _, low in terms.values()])
    powers = [_powers_of(letter, place, terms, most) for place, letter in enumerate(list(_SERIES))]
    # The letters are put in one after the other, so that each of their products is reckoned just once.
    by_two, by_one, made = {}, {}, [0] * (most + 1)
    for (first, second, third), (top, low) in terms.items():
        share = [top * (bottom // low) * number for number in powers[2][third]]
        by_two[first, second] = _series_sum(by_two.get((first, second), made), share)
    for (first, second), series in by_two.items():
        by_one[first] = _series_sum(by_one.get(first, made), series_times(series, powers[1][second]))
    for first, series in by_one.items():
        made = _series_sum(made, series_times(series, powers[0][first]))
    return tuple([reduced(number, bottom) for number in made])


def _powers_of(letter, place, terms, most):
    """The list of all powers of a series up to the greatest exponent at a place."""
    base, found = _basic_numbers(letter, most), [[1] + [0] * most]
    for _ in range(max([exponents[place] for exponents in terms], default=0)):
        found.append(series_times(found[-1], base))
    return found


def _series_sum(one, other):
    return [here + there for here, there in zip(one, other)]


def _check_formula(value):
    if not isinstance(value, Formula) or value.letters != _LETTERS:
        raise InvalidFormula("no formula in three letters")


def series_product(one, other):
    """The product of two power rows, as long as the shorter one."""
    for row in (one, other):
        _check_row(row)
    length = min(len(one), len(other))
    (low, here), (bottom, there) = _with_one_bottom(one[:length]), _with_one_bottom(other[:length])
    return tuple([reduced(number, low * bottom) for number in series_times(here, there)])


def _check_row(value):
    if not isinstance(value, tuple) or not 1 <= len(value) <= MOST_ENTRIES + 1:
        raise InvalidOperation("no tuple of 1 to 41 fractions")
    if not all([is_fraction(entry) for entry in value]):
        raise InvalidOperation("no tuple of fractions")


def _with_one_bottom(row):
    """The shared bottom of fractions, and the list of their tops above it."""
    bottom = shared_multiple([low for _, low in row])
    return bottom, [top * (bottom // low) for top, low in row]


def derived_formula(formula):
    """The formula whose series has each entry of that of a formula, times its power."""
    _check_formula(formula)
    made = {}
    for (first, second, third), number in formula.terms.items():
        shares = (
            ((first + 1, second, third), (first + 4 * second + 6 * third, 12)),
            ((first - 1, second + 1, third), (-first, 12)),
            ((first, second - 1, third + 1), (-second, 3)),
            ((first, second + 2, third - 1), (-third, 2)),
        )
        for exponents, share in shares:
            made[exponents] = sum_of(made.get(exponents, (0, 1)), product_of(number, share))
    kept = {exponents: made[exponents] for exponents in made if made[exponents][0] != 0}
    # What cancels out may be greater than a formula can be, so the limits are asked for here.
    if max([max(exponents) for exponents in kept], default=0) > MOST_EXPONENT:
        raise TooMany(MOST_EXPONENT)
    if len(kept) > MOST_TERMS:
        raise TooMany(MOST_TERMS)
    return Formula(_LETTERS, kept)


def weight_of(formula):
    """The weight of all terms of a formula, None if they have unlike ones or if there are none."""
    _check_formula(formula)
    found = sorted(set([_weight(exponents) for exponents in formula.terms]))
    return found[0] if len(found) == 1 else None


def _weight(exponents):
    return sum([many * weight for many, weight in zip(exponents, _WEIGHTS)])


def _exponents_of(weight):
    """The exponents of all products of letters of a weight."""
    found = []
    for third in range(weight // 6 + 1):
        for second in range((weight - 6 * third) // 4 + 1):
            found.append(((weight - 6 * third - 4 * second) // 2, second, third))
    return found


def formula_of_row(row, weight):
    """The only formula of a weight whose series begins with a power row, None if there is none."""
    _check_row(row)
    if not is_count(weight, 0, _MOST_WEIGHT) or weight % 2 == 1:
        raise InvalidCount(weight)
    order = _exponents_of(weight)
    if len(row) < len(order) + 1:
        raise Refused(len(order))
    columns = [series_of(Formula(_LETTERS, {exponents: 1}), len(row) - 1) for exponents in order]
    rows = []
    for power, (top, bottom) in enumerate(row):
        rows.append([column[power][0] * bottom for column in columns] + [top])
    numbers = solution(rows, len(order))
    if numbers is None:
        return None
    return Formula(_LETTERS, {exponents: number for exponents, number in zip(order, numbers)})
