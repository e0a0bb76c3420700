"""Stage 1: numbers [1.3] to [1.5], and the conventions [0.1] to [0.8] as far as they speak of numbers."""

import math
from fractions import Fraction

from support import ANY_VALUES, LONG, NO_INTEGERS, Case

from swapsheets.base import numbers
from swapsheets.base.formulas import Formula
from swapsheets.base.numbers import added, binomial, divided, factorial, falling, fraction, is_fraction, is_integer
from swapsheets.base.numbers import is_name, is_number, multiplied, number_text, power_of, rising_sums, strict_sums
from swapsheets.errors import InvalidCount, InvalidOperation

EXAMPLES = """
>>> [is_name("Ab"), is_fraction((2, 4)), is_fraction((0, 1)), is_fraction((1, -2)), is_number((3, 1)), is_number((3, 1, 1)), is_number(True)]
[False, False, True, False, True, False, False]
>>> [fraction(6, -4), added((1, 2), (1, 3)), multiplied(6, (1, 4)), divided((1, 2), -3), added((1, 2), (1, 2)), power_of((-2, 3), -3)]
[(-3, 2), (5, 6), (3, 2), (-1, 6), (1, 1), (-27, 8)]
>>> [factorial(5), binomial(6, 2), binomial(2, 3), falling(5, 2), falling(-3, 2), falling(2, 3), number_text((-3, 2)), number_text((4, 1))]
[120, 15, 0, 20, 12, 0, '-3/2', '4']
>>> divided(1, (0, 1))
raises InvalidOperation
"""

# Numbers of many digits are numbers all the same, only bare integers elsewhere are bounded.
NUMBERS = (
    0, 1, -1, 7, LONG - 1, LONG, -LONG, 10 ** 200 + 1, (0, 1), (1, 1), (-1, 1), (3, 1), (1, 2), (-3, 2), (7, 3),
    (LONG, LONG + 1), (-1, 10 ** 99), (10 ** 150 + 1, 10 ** 150),
)
NO_NUMBERS = (
    True, False, None, "", "1", "1/2", (), (1,), (1, 0), (0, 0), (0, 2), (2, 2), (2, 4), (1, -2), (-1, -1), (1, 1, 1),
    (True, 2), (1, True), (0, True), (False, 1), (None, 1), ("1", 2), ((1, 2), 3), [1, 2], [1], {}, {1: 2},
    (LONG, LONG), Formula.plain(1, 1), Formula(2, {}),
)


def worth(number):
    """A number as a fraction of Python's own."""
    return Fraction(*number) if isinstance(number, tuple) else Fraction(number)


def pair(value):
    return (value.numerator, value.denominator)


class TestNumbers(Case):
    def test_examples(self):
        self.runs(EXAMPLES, dict(vars(numbers)))

    def test_constants(self):
        self.same((numbers.MAX_NAME, numbers.MAX_RAISED, numbers.MAX_CHOSEN), (8, 1000, 1000))

    def test_is_integer(self):
        self.judges(is_integer, (0, 1, -1, 12, LONG - 1, 1 - LONG), NO_INTEGERS + (LONG + 1, -LONG - 1, 1.0, (0, 1)))

    def test_is_name(self):
        right = ("a", "z", "abcdefgh", "zzzzzzzz", "all")
        wrong = ("", "A", "aB", "a1", "a b", "abcdefghi", "a_", "a\n", "`", "{", "\u00e9", "x" * 4000, b"a", ("a",))
        self.judges(is_name, right, wrong + (True, None, 1, ["a"], {"a": 1}, Formula.letter(1, 0)))

    def test_is_fraction(self):
        pairs = tuple([number for number in NUMBERS if isinstance(number, tuple)])
        bare = tuple([number for number in NUMBERS if not isinstance(number, tuple)])
        self.judges(is_fraction, pairs, bare + NO_NUMBERS)

    def test_is_number(self):
        self.judges(is_number, NUMBERS, NO_NUMBERS + (1.0,))

    def test_judges_accept_every_value(self):
        for judge in (is_integer, is_name, is_fraction, is_number):
            for value in ANY_VALUES:
                self.assertIn(judge(value), (True, False))
                self.assertIsInstance(judge(value), bool)

    def test_fraction(self):
        for top in (0, 1, -6, 35, LONG, -10 ** 99, 3 ** 400):
            for bottom in (1, -1, 4, -14, LONG, 3 ** 300, -10 ** 99):
                found = fraction(top, bottom)
                self.same(found, pair(Fraction(top, bottom)))
                self.assertTrue(is_fraction(found))
        wrong = tuple([value for value in NO_INTEGERS if not isinstance(value, int) or isinstance(value, bool)])
        self.refuses_in_order(fraction, (1, InvalidCount, wrong + ((1, 2),)), (2, InvalidCount, (0,) + wrong + ((1, 2),)))

    def test_sums_products_and_quotients(self):
        for one in NUMBERS:
            for other in NUMBERS:
                self.same(added(one, other), pair(worth(one) + worth(other)))
                self.same(multiplied(one, other), pair(worth(one) * worth(other)))
                if worth(other) == 0:
                    self.refuses(InvalidOperation, divided, one, other)
                else:
                    self.same(divided(one, other), pair(worth(one) / worth(other)))

    def test_errors_of_sums_products_and_quotients(self):
        for call in (added, multiplied, divided):
            self.refuses_in_order(call, (1, InvalidCount, NO_NUMBERS), ((1, 2), InvalidCount, NO_NUMBERS))
        # The quotient by 0 comes behind the errors of both numbers.
        self.refuses(InvalidCount, divided, True, 0, kept=(True,))
        self.refuses(InvalidOperation, divided, 0, 0)
        self.refuses(InvalidOperation, divided, (1, 2), (0, 1))

    def test_one_number_told_in_two_ways(self):
        for call in (added, multiplied, divided):
            self.same(call(6, 4), call((6, 1), (4, 1)))
        self.same(power_of(5, 3), power_of((5, 1), 3))
        self.same(number_text(5), number_text((5, 1)))

    def test_power_of(self):
        for number in NUMBERS:
            for many in (0, 1, 2, 3, 7, 16):
                self.same(power_of(number, many), pair(worth(number) ** many))
                if worth(number) != 0:
                    self.same(power_of(number, -many), pair(worth(number) ** -many))
        self.same(power_of(0, 0), (1, 1))
        self.same(power_of((0, 1), 0), (1, 1))
        self.same(power_of((-2, 3), 1000), (2 ** 1000, 3 ** 1000))
        self.same(power_of((-2, 3), -999), (-3 ** 999, 2 ** 999))
        self.same(power_of(10, -1000), (1, 10 ** 1000))

    def test_errors_of_power_of(self):
        wrong = (1001, -1001, LONG, -LONG) + NO_INTEGERS
        self.refuses_in_order(power_of, (1, InvalidCount, NO_NUMBERS), (-1000, InvalidCount, wrong))
        self.refuses_in_order(power_of, (1, InvalidCount, NO_NUMBERS), (1000, InvalidCount, wrong))
        for number in (0, (0, 1)):
            self.refuses(InvalidOperation, power_of, number, -1)
            self.refuses(InvalidOperation, power_of, number, -1000)
            self.refuses(InvalidCount, power_of, number, -1001, kept=(-1001,))

    def test_factorial(self):
        for number in (0, 1, 2, 5, 20, 999, 1000):
            self.same(factorial(number), math.factorial(number))
        self.refuses_in_order(factorial, (3, InvalidCount, (-1, 1001) + NO_INTEGERS))

    def test_binomial(self):
        for top in range(12):
            for low in range(14):
                self.same(binomial(top, low), math.comb(top, low))
                self.assertEqual(binomial(top, low) * falling(low, low), falling(top, low))
        self.same(binomial(1000, 500), math.comb(1000, 500))
        self.same(binomial(0, 1000), 0)
        wrong = (-1, 1001) + NO_INTEGERS
        self.refuses_in_order(binomial, (5, InvalidCount, wrong), (3, InvalidCount, wrong))

    def test_falling(self):
        for top in (0, 1, 2, 5, -1, -3, LONG - 1, 1 - LONG):
            for low in (0, 1, 2, 3, 6, 50):
                made = 1
                for less in range(low):
                    made *= top - less
                self.same(falling(top, low), made)
        self.same(falling(1000, 1000), math.factorial(1000))
        self.same(falling(-1, 1000), math.factorial(1000))
        self.same(falling(999, 1000), 0)
        wrong = (-1, 1001) + NO_INTEGERS
        self.refuses_in_order(falling, (-5, InvalidCount, NO_INTEGERS), (3, InvalidCount, wrong))

    def test_the_falling_product_is_not_0_below_0(self):
        for top in range(5):
            for low in range(top + 1, 8):
                self.assertEqual(falling(top, low), 0)
        self.assertNotEqual(falling(-2, 5), 0)

    def test_number_text(self):
        told = (
            (0, "0"), (5, "5"), (-5, "-5"), ((0, 1), "0"), ((-7, 1), "-7"), ((1, 2), "1/2"), ((-3, 2), "-3/2"),
            (10 ** 3999, "1" + "0" * 3999), ((-1, LONG), "-1/1" + "0" * 60),
        )
        for number, text in told:
            self.same(number_text(number), text)
        self.refuses_in_order(number_text, (1, InvalidCount, NO_NUMBERS))

    def test_sums_of_products(self):
        for values in ((), (0,), (1, 2, 3), (2, -1, 0, 5, -1), (-3, -3)):
            made = strict_sums(values, 4)
            repeats = rising_sums(values, 4)
            for many in range(5):
                self.same(made[many], sum([math.prod(some) for some in choices(values, many, 1)]))
                self.same(repeats[many], sum([math.prod(some) for some in choices(values, many, 0)]))


def choices(values, many, step):
    """All ways to take so many of the values, each at most once if step is 1."""
    if many == 0:
        return [()]
    found = []
    for at, value in enumerate(values):
        found += [(value,) + rest for rest in choices(values[at + step:], many - 1, step)]
    return found
