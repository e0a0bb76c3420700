"""Exact numbers: integers and fractions, and the products that count choices."""

from math import comb, gcd, lcm

from swapsheets.errors import InvalidCount, InvalidOperation

MAX_NAME = 8
MAX_RAISED = 1000
MAX_CHOSEN = 1000
_FIRST_TOO_LONG = 10 ** 60


def is_whole(value):
    """Whether the value is an integer, of any length."""
    return isinstance(value, int) and not isinstance(value, bool)


def is_integer(value):
    """Whether the value is an integer of at most sixty digits."""
    return is_whole(value) and -_FIRST_TOO_LONG < value < _FIRST_TOO_LONG


def is_name(value):
    """Whether the value is a string of one to eight letters a to z."""
    if not isinstance(value, str) or not 1 <= len(value) <= MAX_NAME:
        return False
    return all(["a" <= letter <= "z" for letter in value])


def is_fraction(value):
    """Whether the value is a pair (top, bottom) in lowest terms, the bottom above 0."""
    if not isinstance(value, tuple) or len(value) != 2:
        return False
    top, bottom = value
    return is_whole(top) and is_whole(bottom) and bottom >= 1 and gcd(top, bottom) == 1


def is_number(value):
    """Whether the value is an integer of any length, or a fraction."""
    return is_whole(value) or is_fraction(value)


def is_count(value, low, high):
    """Whether the value is an integer within both bounds."""
    return is_integer(value) and low <= value <= high


def check_count(value, low, high):
    """Raise the error of a count that is not within both bounds."""
    if not is_count(value, low, high):
        raise InvalidCount(value)


def check_integer(value):
    """Raise the error of a value that is no integer of at most sixty digits."""
    if not is_integer(value):
        raise InvalidCount(value)


def check_number(value):
    """Raise the error of a value that is no number."""
    if not is_number(value):
        raise InvalidCount(value)


def pair_of(number):
    """The fraction that is the same as a number."""
    if isinstance(number, tuple):
        return number
    return number, 1


def reduced(top, bottom):
    """The fraction of two integers, the second one not 0."""
    shared = gcd(top, bottom)
    if bottom < 0:
        shared = -shared
    return top // shared, bottom // shared


def sum_of(one, other):
    """The sum of two fractions."""
    return reduced(one[0] * other[1] + other[0] * one[1], one[1] * other[1])


def product_of(one, other):
    """The product of two fractions."""
    return reduced(one[0] * other[0], one[1] * other[1])


def shared_multiple(numbers):
    """The least common multiple of integers other than 0."""
    made = 1
    for number in numbers:
        made = lcm(made, number)
    return made


def weighed_sum(numbers, pairs):
    """The fraction that is the sum of all products of an integer and a top above a bottom.

    A pair need not be in lowest terms, and its bottom can be below 0.
    """
    shared = shared_multiple([bottom for _, bottom in pairs])
    total = 0
    for number, (top, bottom) in zip(numbers, pairs):
        total = total + number * top * (shared // bottom)
    return reduced(total, shared)


def whole_power(base, many):
    """An integer, multiplied by itself so many times, many being at least 0."""
    made = 1
    while many > 0:
        if many % 2 == 1:
            made = made * base
        many = many // 2
        # The last square would be the longest integer of all, and is not needed.
        if many > 0:
            base = base * base
    return made


def fraction(top, bottom):
    """The fraction that is the quotient of two integers of any length."""
    if not is_whole(top):
        raise InvalidCount(top)
    if not is_whole(bottom) or bottom == 0:
        raise InvalidCount(bottom)
    return reduced(top, bottom)


def added(one, other):
    """The sum of two numbers."""
    check_number(one)
    check_number(other)
    return sum_of(pair_of(one), pair_of(other))


def multiplied(one, other):
    """The product of two numbers."""
    check_number(one)
    check_number(other)
    return product_of(pair_of(one), pair_of(other))


def divided(one, other):
    """The quotient of two numbers."""
    check_number(one)
    check_number(other)
    by = pair_of(other)
    if by[0] == 0:
        raise InvalidOperation("there is no quotient by 0")
    shared = pair_of(one)
    return reduced(shared[0] * by[1], shared[1] * by[0])


def power_of(number, many):
    """A number to a power, a fraction; below 0 the quotient of 1 by the opposite power."""
    check_number(number)
    check_count(many, -MAX_RAISED, MAX_RAISED)
    top, bottom = pair_of(number)
    if many >= 0:
        return whole_power(top, many), whole_power(bottom, many)
    if top == 0:
        raise InvalidOperation("0 has no powers below 0")
    return reduced(whole_power(bottom, -many), whole_power(top, -many))


def factorial(number):
    """The product of the integers from 1 to a number."""
    check_count(number, 0, MAX_CHOSEN)
    return _falling_product(number, number)


def binomial(top, low):
    """The falling product of both, divided by that of the second one and itself."""
    check_count(top, 0, MAX_CHOSEN)
    check_count(low, 0, MAX_CHOSEN)
    return comb(top, low)


def falling(top, low):
    """The product of top, top - 1, .., as many as the second one tells."""
    check_integer(top)
    check_count(low, 0, MAX_CHOSEN)
    return _falling_product(top, low)


def _falling_product(top, low):
    made = 1
    for less in range(low):
        made = made * (top - less)
    return made


def number_text(number):
    """The text of a number, like -3/2 or 5."""
    check_number(number)
    return pair_text(pair_of(number))


def pair_text(pair):
    """The text of a fraction."""
    top, bottom = pair
    if bottom == 1:
        return str(top)
    return f"{top}/{bottom}"


def strict_sums(values, most):
    """For each k up to the last one the sum of all products of k of the values, each taken once."""
    sums = [1] + [0] * most
    for value in values:
        for many in range(most, 0, -1):
            sums[many] = sums[many] + value * sums[many - 1]
    return sums


def rising_sums(values, most):
    """For each k up to the last one the sum of all products of k of the values, with repeats."""
    sums = [1] + [0] * most
    for value in values:
        # From below, so that products that have the value already take it again.
        for many in range(1, most + 1):
            sums[many] = sums[many] + value * sums[many - 1]
    return sums


def series_times(series, steps):
    """The product of two series, as far as the first one goes."""
    made = []
    for at in range(len(series)):
        parts = [steps[power] * series[at - power] for power in range(min(at + 1, len(steps)))]
        made.append(sum(parts))
    return made
