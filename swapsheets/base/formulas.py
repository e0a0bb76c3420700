"""Formulas: sums of fractions times powers of up to eight letters."""

from swapsheets.base.numbers import check_count, is_count, is_integer, is_number
from swapsheets.base.numbers import pair_of, pair_text, product_of, reduced, shared_multiple, sum_of
from swapsheets.base.numbers import whole_power
from swapsheets.errors import InvalidCount, InvalidFormula, InvalidOperation, TooMany

MOST_LETTERS = 8
MOST_EXPONENT = 60
MOST_TERMS = 2000
MOST_RAISED = 40
_MOST_POINTS = 60
_NAMES = "abcdefgh"

# Sums are multiplied with the exponents of a term packed into one integer, eight bits for each
# letter: two exponents add up to 120 at most, so none runs over into the next one.
_BITS = 8
_MASK = 255
# So many terms of a factor are multiplied before it is seen whether there are too many already.
_AT_ONCE = 50


class Formula:
    """A sum of terms, fractions times powers of the first letters. It never changes."""

    def __init__(self, letters, terms):
        check_count(letters, 1, MOST_LETTERS)
        if not _are_terms(letters, terms):
            raise InvalidFormula("no dict from exponents to numbers")
        pairs = {exponents: pair_of(terms[exponents]) for exponents in terms}
        kept = [exponents for exponents in pairs if pairs[exponents][0] != 0]
        self._letters = letters
        self._terms = {exponents: pairs[exponents] for exponents in sorted(kept, reverse=True)}
        self._degree = max([sum(exponents) for exponents in kept], default=-1)

    @classmethod
    def letter(cls, letters, place):
        """The letter at a place alone."""
        check_count(letters, 1, MOST_LETTERS)
        check_count(place, 0, letters - 1)
        return cls(letters, {tuple([int(at == place) for at in range(letters)]): 1})

    @classmethod
    def plain(cls, letters, number):
        """The number alone."""
        check_count(letters, 1, MOST_LETTERS)
        if not is_number(number):
            raise InvalidFormula("no number")
        return cls(letters, {(0,) * letters: number})

    @property
    def letters(self):
        """How many letters the formula has."""
        return self._letters

    @property
    def terms(self):
        """The dict from exponents to fractions, the greatest exponents first."""
        return {exponents: self._terms[exponents] for exponents in self._terms}

    @property
    def degree(self):
        """The greatest degree of the terms, -1 if there are none."""
        return self._degree

    def coefficient_at(self, exponents):
        """The fraction of a term, (0, 1) if there is none."""
        if not _are_exponents(self._letters, exponents):
            raise InvalidFormula("no exponents")
        return self._terms.get(exponents, (0, 1))

    def plus(self, other):
        """The sum of the formula and another formula or a number."""
        return _with_added(self, self._taken(other), 1)

    def minus(self, other):
        """The formula less another formula or a number."""
        return _with_added(self, self._taken(other), -1)

    def times(self, other):
        """The product of the formula and another formula or a number."""
        one_bottom, one = _packed(self)
        other_bottom, by = _packed(self._taken(other))
        return _unpacked(self._letters, one_bottom * other_bottom, _product(one, by))

    def raised(self, many):
        """The product of so many times the formula."""
        check_count(many, 0, MOST_RAISED)
        bottom, by = _packed(self)
        made = {0: 1}
        for _ in range(many):
            made = _product(made, by)
        return _unpacked(self._letters, whole_power(bottom, many), made)

    def part(self, degree):
        """All terms of a degree."""
        if not is_integer(degree) or degree < 0:
            raise InvalidCount(degree)
        kept = [exponents for exponents in self._terms if sum(exponents) == degree]
        return Formula(self._letters, {exponents: self._terms[exponents] for exponents in kept})

    def derived(self, place):
        """The formula derived by the letter at a place."""
        check_count(place, 0, self._letters - 1)
        made = {}
        for exponents, number in self._terms.items():
            many = exponents[place]
            if many > 0:
                lower = exponents[:place] + (many - 1,) + exponents[place + 1:]
                made[lower] = product_of(number, (many, 1))
        return Formula(self._letters, made)

    def at(self, values):
        """The value at a tuple of numbers, one for each letter."""
        if not isinstance(values, tuple) or len(values) != self._letters:
            raise InvalidFormula("no tuple of a number for each letter")
        if not all([is_number(value) for value in values]):
            raise InvalidFormula("no tuple of numbers")
        return _value_at(self._terms, [pair_of(value) for value in values])

    def put_in(self, formulas):
        """The formula with a formula in the place of each letter."""
        if not isinstance(formulas, tuple) or len(formulas) != self._letters:
            raise InvalidFormula("no tuple of a formula for each letter")
        if not all([isinstance(formula, Formula) for formula in formulas]):
            raise InvalidFormula("no tuple of formulas")
        letters = formulas[0].letters
        if not all([formula.letters == letters for formula in formulas]):
            raise InvalidOperation("the formulas have unlike letters")
        bottom, made = _put_together(self._terms, [_packed(formula) for formula in formulas])
        return _unpacked(letters, bottom, made)

    def _taken(self, other):
        """What another operand is as a formula in equally many letters."""
        if isinstance(other, Formula):
            if other.letters != self._letters:
                raise InvalidOperation("the formulas have unlike letters")
            return other
        if not is_number(other):
            raise InvalidFormula("no formula and no number")
        return Formula.plain(self._letters, other)

    def __bool__(self):
        return bool(self._terms)

    def __eq__(self, other):
        return isinstance(other, Formula) and self._letters == other._letters and self._terms == other._terms

    def __str__(self):
        if not self._terms:
            return "0"
        ahead = [" - " if top < 0 else " + " for top, _ in self._terms.values()]
        sizes = [_term_text(exponents, number) for exponents, number in self._terms.items()]
        first = "-" if ahead[0] == " - " else ""
        return "".join([first, sizes[0]] + [ahead[at] + sizes[at] for at in range(1, len(sizes))])


def fitted(points):
    """The formula in one letter, of the least degree, that has told values at told integers."""
    if not isinstance(points, dict) or not 1 <= len(points) <= _MOST_POINTS:
        raise InvalidFormula("no dict of 1 to 60 points")
    if not all([is_integer(spot) for spot in points]):
        raise InvalidFormula("the spots are no integers")
    if not all([is_number(value) for value in points.values()]):
        raise InvalidFormula("the values are no numbers")
    spots = sorted(list(points))
    steps = _differences(spots, [pair_of(points[spot]) for spot in spots])
    made = []
    for at in range(len(spots) - 1, -1, -1):
        made = _one_factor_more(made, spots[at])
        made[0] = sum_of(made[0], steps[at])
    return Formula(1, {(many,): number for many, number in enumerate(made)})


def _differences(spots, values):
    """The numbers of Newton's formula: the first divided difference of each order."""
    row, firsts = values, [values[0]]
    for order in range(1, len(spots)):
        lower, row = row, []
        for at in range(len(spots) - order):
            (top, bottom), (less, low) = lower[at + 1], lower[at]
            rise = reduced(top * low - less * bottom, bottom * low)
            row.append(reduced(rise[0], rise[1] * (spots[at + order] - spots[at])))
        firsts.append(row[0])
    return firsts


def _one_factor_more(numbers, spot):
    """The fractions of a formula in one letter, multiplied by the letter less an integer."""
    made = [(0, 1)] + numbers
    for many, number in enumerate(numbers):
        made[many] = sum_of(made[many], product_of(number, (-spot, 1)))
    return made


def _are_exponents(letters, value):
    if not isinstance(value, tuple) or len(value) != letters:
        return False
    return all([is_count(many, 0, MOST_EXPONENT) for many in value])


def _are_terms(letters, value):
    if not isinstance(value, dict) or len(value) > MOST_TERMS:
        return False
    if not all([_are_exponents(letters, exponents) for exponents in value]):
        return False
    return all([is_number(number) for number in value.values()])


def _term_text(exponents, number):
    """The text of a term without its sign."""
    top, bottom = number
    powers = [_power_text(place, many) for place, many in enumerate(exponents) if many > 0]
    size = pair_text((abs(top), bottom))
    if powers and size == "1":
        return "*".join(powers)
    return "*".join([size] + powers)


def _power_text(place, many):
    if many == 1:
        return _NAMES[place]
    return f"{_NAMES[place]}^{many}"


def _with_added(formula, other, sign):
    """A formula and so many times another one in equally many letters."""
    made = formula.terms
    for exponents, (top, bottom) in other.terms.items():
        made[exponents] = sum_of(made.get(exponents, (0, 1)), (sign * top, bottom))
    kept = {exponents: made[exponents] for exponents in made if made[exponents][0] != 0}
    if len(kept) > MOST_TERMS:
        raise TooMany(MOST_TERMS)
    return Formula(formula.letters, kept)


def _shared_bottom(terms):
    return shared_multiple([bottom for _, bottom in terms.values()])


def _greatest_exponents(terms, letters):
    return [max([exponents[place] for exponents in terms], default=0) for place in range(letters)]


def _packed(formula):
    """The shared bottom of all terms, and the dict from packed exponents to tops above it."""
    terms = formula.terms
    bottom = _shared_bottom(terms)
    made = {}
    for exponents, (top, low) in terms.items():
        spot = 0
        for many in exponents:
            spot = (spot << _BITS) + many
        made[spot] = top * (bottom // low)
    return bottom, made


def _unpacked(letters, bottom, packed):
    """The formula of a dict from packed exponents to tops above a shared bottom."""
    terms = {}
    for spot, top in packed.items():
        exponents = [_exponent_at(spot, place) for place in range(letters)]
        terms[tuple(exponents[::-1])] = reduced(top, bottom)
    return Formula(letters, terms)


def _exponent_at(spot, place):
    """The exponent of a packed term, the last letter being at the place 0."""
    return (spot >> _BITS * place) & _MASK


def _product(one, other):
    """The product of two packed sums, without terms 0."""
    _check_exponents(one, other)
    made, highest = {}, max(list(other), default=0)
    for at, low in enumerate(sorted(list(one), reverse=True)):
        if at % _AT_ONCE == 0:
            _check_terms(made, low + highest)
        for high, number in other.items():
            spot = low + high
            made[spot] = made.get(spot, 0) + one[low] * number
    _check_terms(made, -1)
    return {spot: top for spot, top in made.items() if top != 0}


def _check_exponents(one, other):
    """Raise the error of an exponent that is too great in the product of two packed sums."""
    # The greatest exponents of a letter add up, as the product of what stands with them is not 0.
    for place in range(MOST_LETTERS):
        tops = [max([_exponent_at(spot, place) for spot in packed], default=0) for packed in (one, other)]
        if sum(tops) > MOST_EXPONENT:
            raise TooMany(MOST_EXPONENT)


def _check_terms(made, above):
    """Raise the error of too many terms, if there are so many above what may still change."""
    if len(made) > MOST_TERMS:
        settled = [spot for spot, top in made.items() if spot > above and top != 0]
        if len(settled) > MOST_TERMS:
            raise TooMany(MOST_TERMS)


def _put_together(terms, parts):
    """The shared bottom, and the packed sum of all terms, with packed sums in the place of letters."""
    tops = _greatest_exponents(terms, len(parts))
    shared = _shared_bottom(terms)
    made, path, products = {}, [], [{0: 1}]
    for exponents, (top, bottom) in terms.items():
        _follow(path, products, exponents, parts)
        factor = top * (shared // bottom)
        for place, many in enumerate(exponents):
            factor = factor * whole_power(parts[place][0], tops[place] - many)
        _add_times(made, products[-1], factor)
        if len(made) > MOST_TERMS:
            raise TooMany(MOST_TERMS)
    for place, most in enumerate(tops):
        shared = shared * whole_power(parts[place][0], most)
    return shared, made


def _follow(path, products, exponents, parts):
    """Lead the path, a letter for each factor, and its products to these exponents.

    Terms that come one after the other begin with the same factors, whose products are kept.
    """
    steps = [place for place, many in enumerate(exponents) for _ in range(many)]
    same = 0
    while same < min(len(path), len(steps)) and path[same] == steps[same]:
        same += 1
    del path[same:]
    del products[same + 1:]
    for place in steps[same:]:
        path.append(place)
        products.append(_product(products[-1], parts[place][1]))


def _add_times(made, packed, factor):
    """Add so many times a packed sum to another one, and leave out what becomes 0."""
    for spot, number in packed.items():
        top = made.get(spot, 0) + factor * number
        if top != 0:
            made[spot] = top
        elif spot in made:
            del made[spot]


def _value_at(terms, values):
    """The value of a sum of terms at fractions, reckoned above one shared bottom."""
    shared = _shared_bottom(terms)
    tops = _greatest_exponents(terms, len(values))
    powers = []
    for (top, bottom), most in zip(values, tops):
        powers.append([whole_power(top, many) * whole_power(bottom, most - many) for many in range(most + 1)])
    total = 0
    for exponents, (top, bottom) in terms.items():
        part = top * (shared // bottom)
        for place, many in enumerate(exponents):
            part = part * powers[place][many]
        total = total + part
    for (_, bottom), most in zip(values, tops):
        shared = shared * whole_power(bottom, most)
    return reduced(total, shared)
