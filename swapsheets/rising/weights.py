"""Weights of rows: numbers of rising and strict rows, of mixed rows and of cycles."""

from swapsheets.base.formulas import Formula
from swapsheets.base.numbers import check_count, check_integer, is_count, is_integer, reduced, rising_sums
from swapsheets.base.numbers import series_times, strict_sums, weighed_sum, whole_power
from swapsheets.charts.characters import character_products, character_table
from swapsheets.errors import InvalidMix, InvalidOperation, TooMany
from swapsheets.moving.moves import ROW_WORDS, behind_swap, check_move_of, check_word, idle_move, row_number, swaps_of
from swapsheets.squares.lots import check_lots, check_sum, contents, keepers, lots

MAX_RISING = 8
MAX_WEIGHED = 14
MOST_SWAPS = 200
MAX_ROWS = 20000
_MOST_PAIRS = 6
_MOST_MIXED = 60
_MOST_ENTRY = 40
_MOST_MEMBERS = 7
_MOST_LISTED = 12


def weighted_number(one, other, many, word):
    """The number of rows of a word between moves of two kinds, divided by d!: a fraction."""
    check_lots(one, other)
    check_count(many, 0, MOST_SWAPS)
    check_word(word)
    check_sum(one, MAX_WEIGHED)
    products = character_products(one, other)
    factors = [_factor(contents(shape), many, word) for shape in products]
    return _number_with(one, other, factors, products)


def mixed_number(one, other, mix):
    """The number of mixed rows between moves of two kinds, divided by d!: a fraction."""
    check_lots(one, other)
    if not _is_mix(mix):
        raise InvalidMix("no tuple of at most six pairs of a word and a number")
    check_sum(one, MAX_WEIGHED)
    products = character_products(one, other)
    factors = [_mixed_factor(contents(shape), mix) for shape in products]
    return _number_with(one, other, factors, products)


def series_number(one, other, many, weight):
    """The series number of a weight: a fraction."""
    check_lots(one, other)
    check_count(many, 0, _MOST_ENTRY)
    if not _is_weight(weight):
        raise InvalidMix("no tuple of one to seven integers that begins with 1")
    check_sum(one, MAX_WEIGHED)
    products = character_products(one, other)
    factors = [_series_entry(contents(shape), many, weight) for shape in products]
    return _number_with(one, other, factors, products)


def _is_mix(value):
    if not isinstance(value, tuple) or len(value) > _MOST_PAIRS:
        return False
    if not all([isinstance(pair, tuple) and len(pair) == 2 for pair in value]):
        return False
    return all([word in ROW_WORDS and is_count(many, 0, _MOST_MIXED) for word, many in value])


def _is_weight(value):
    if not isinstance(value, tuple) or not 1 <= len(value) <= _MOST_MEMBERS:
        return False
    return all([is_integer(number) for number in value]) and value[0] == 1


def _number_with(one, other, factors, products):
    """The sum of all factors, times both characters, divided by z of both lots."""
    total = sum([factor * product for factor, product in zip(factors, products.values())])
    return reduced(total, keepers(one) * keepers(other))


def _factor(values, many, word):
    """What stands for rows of a word in the place of the power of the sum of all contents."""
    if word == "all":
        return whole_power(sum(values), many)
    return word_sums(values, many, word)[many]


def word_sums(values, most, word):
    """The factor of a word at contents, for each number of swaps up to the last one."""
    if word == "rising":
        return rising_sums(values, most)
    if word == "strict":
        return strict_sums(values, most)
    powers, base = [1], sum(values)
    for _ in range(most):
        powers.append(powers[-1] * base)
    return powers


def _mixed_factor(values, mix):
    made = 1
    for word, many in mix:
        made = made * _factor(values, many, word)
    return made


def _series_entry(values, many, weight):
    """The entry at a power of the product of the series of a weight at all contents."""
    series = [1] + [0] * many
    for content in values:
        steps = [number * whole_power(content, power) for power, number in enumerate(weight)]
        series = series_times(series, steps)
    return series[many]


def weight_table(total, word, many):
    """The dict from all lots to dicts from all lots to the numbers of rows of a word."""
    check_count(total, 1, MAX_RISING)
    check_word(word)
    check_count(many, 0, MOST_SWAPS)
    return _whole_table(_table_with(total, [(_factor(contents(shape), many, word), 1) for shape in lots(total)]))


def cycle_table(total, number):
    """The table of all cycle numbers of a number."""
    check_count(total, 1, MAX_RISING)
    check_integer(number)
    return _whole_table(_table_with(total, [(_shifted_product(shape, number), 1) for shape in lots(total)]))


def inverse_table(total, number):
    """The table that undoes that of all cycle numbers of a number."""
    check_count(total, 1, MAX_RISING)
    check_integer(number)
    if abs(number) < total:
        raise InvalidOperation("the table cannot be undone in this way")
    return _table_with(total, [(1, _shifted_product(shape, number)) for shape in lots(total)])


def _shifted_product(shape, number):
    """The product of the number and each content, added up."""
    made = 1
    for content in contents(shape):
        made = made * (number + content)
    return made


def _table_with(total, factors):
    """For all lots m and n the sum of all factors, times both characters, divided by z(n)."""
    order, rows = lots(total), character_table(total)
    made = {one: {} for one in order}
    for by, other in enumerate(order):
        shared = keepers(other)
        pairs = [(top, bottom * shared) for top, bottom in factors]
        for at, one in enumerate(order):
            made[one][other] = weighed_sum([row[at] * row[by] for row in rows], pairs)
    return made


def _whole_table(table):
    """The table with integers in the place of fractions with the bottom 1."""
    return {one: {other: pair[0] for other, pair in row.items()} for one, row in table.items()}


def rising_bottom(total):
    """The rising bottom of a number of places, a formula in one letter."""
    check_count(total, 1, MAX_RISING)
    return Formula(1, {(power,): number for power, number in enumerate(_bottom_numbers(total))})


def _bottom_numbers(total):
    """The coefficients of the rising bottom, by the powers of its letter."""
    spots = []
    for content in range(1 - total, total):
        if content != 0:
            spots.extend([-content] * _most_squares(total, abs(content)))
    return strict_sums(spots, len(spots))


def _most_squares(total, size):
    """How often a content of a size can stand in a diagram of so many squares."""
    many = 0
    while (many + 1) * (many + 1 + size) <= total:
        many += 1
    return many


def rising_top(one, other):
    """The rising top of two lots, a formula in one letter."""
    check_lots(one, other)
    check_sum(one, MAX_RISING)
    bottom = _bottom_numbers(sum(one))
    # The degree is below that of the bottom, but for less than two places it is 0.
    most = max(len(bottom) - 2, 0)
    series = [0] * (most + 1)
    for shape, product in character_products(one, other).items():
        for many, number in enumerate(rising_sums(contents(shape), most)):
            series[many] = series[many] + product * number
    shared = keepers(one) * keepers(other)
    tops = series_times(series, bottom)
    return Formula(1, {(power,): reduced(top, shared) for power, top in enumerate(tops)})


def rising_rows(size, many, move):
    """All rising rows of so many swaps with a product, ascending."""
    check_count(size, 1, MAX_RISING)
    check_count(many, 0, _MOST_LISTED)
    check_move_of(size, move)
    if row_number(size, many, "rising") > MAX_ROWS:
        raise TooMany(MAX_ROWS)
    swaps = swaps_of(size)
    waiting = [((), idle_move(size))]
    while waiting:
        row, product = waiting.pop()
        if len(row) < many:
            # The least swap is put last, as it is to be taken first.
            for swap in swaps[::-1]:
                if row == () or row[-1][1] <= swap[1]:
                    waiting.append((row + (swap,), behind_swap(product, swap)))
        elif product == move:
            yield row
