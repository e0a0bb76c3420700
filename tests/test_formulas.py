"""Stage 2: formulas [2.1] to [2.6], and the conventions as far as they speak of formulas."""

from fractions import Fraction

from support import ANY_VALUES, LONG, NO_INTEGERS, NO_TUPLES, Case
from test_numbers import NO_NUMBERS

from swapsheets.base import formulas
from swapsheets.base.formulas import Formula, fitted
from swapsheets.errors import InvalidCount, InvalidFormula, InvalidOperation, TooMany

EXAMPLES = """
>>> A, B = Formula.letter(2, 0), Formula.letter(2, 1)
>>> MIXED = A.times(A).times((1, 2)).minus(A.times(B)).plus(3)
>>> [str(MIXED), MIXED.terms, MIXED.degree, MIXED.coefficient_at((1, 1)), MIXED.at((2, (1, 3))), str(MIXED.part(2)), str(MIXED.derived(0))]
['1/2*a^2 - a*b + 3', {(2, 0): (1, 2), (1, 1): (-1, 1), (0, 0): (3, 1)}, 2, (-1, 1), (13, 3), '1/2*a^2 - a*b', 'a - b']
>>> [str(A.plus(B).raised(3)), str(MIXED.put_in((Formula.letter(1, 0), Formula.plain(1, 2)))), str(Formula(1, {(1,): 0})), Formula(1, {}).degree, bool(A.minus(A))]
['a^3 + 3*a^2*b + 3*a*b^2 + b^3', '1/2*a^2 - 2*a + 3', '0', -1, False]
>>> [str(fitted({0: 0, 1: 1, 2: 3})), str(Formula.plain(3, (-2, 3))), str(Formula(2, {(0, 1): -1}))]
['1/2*a^2 + 1/2*a', '-2/3', '-b']
>>> A.plus(Formula.letter(1, 0))
raises InvalidOperation
"""

A, B = Formula.letter(2, 0), Formula.letter(2, 1)
ONE = Formula.letter(1, 0)
SAMPLES = (
    Formula(2, {}), Formula.plain(2, 1), A, B, A.plus(B), A.minus(B).plus((1, 2)),
    Formula(2, {(2, 0): (1, 2), (1, 1): -1, (0, 0): 3}), Formula(2, {(3, 1): (5, 6), (0, 2): (-7, 4), (1, 0): 2}),
)
POINTS = ((0, 0), (1, 2), ((1, 3), -4), (LONG, (1, 7)), ((-5, 2), (3, 10 ** 70)))
NO_FORMULAS = NO_NUMBERS[:-2] + ((1, 2, 3), [A], (A,), {(0, 0): 1})


def grid(letters, most, many):
    """A formula of so many terms 1, with exponents up to `most` in its first two letters."""
    spots = [(at // (most + 1), at % (most + 1)) + (0,) * (letters - 2) for at in range(many)]
    return Formula(letters, {spot: 1 for spot in spots})


def worth(formula, values):
    """The value of a formula, reckoned by Python's fractions."""
    total = Fraction(0)
    for exponents, (top, bottom) in formula.terms.items():
        part = Fraction(top, bottom)
        for many, value in zip(exponents, values):
            part *= (Fraction(*value) if isinstance(value, tuple) else Fraction(value)) ** many
        total += part
    return (total.numerator, total.denominator)


class TestFormula(Case):
    def test_examples(self):
        self.runs(EXAMPLES, dict(vars(formulas)))

    def test_constants(self):
        told = (formulas.MOST_LETTERS, formulas.MOST_EXPONENT, formulas.MOST_TERMS, formulas.MOST_RAISED)
        self.same(told, (8, 60, 2000, 40))

    def test_properties(self):
        made = Formula(3, {(0, 1, 2): (1, 2), (4, 0, 0): 3, (0, 0, 0): (0, 1), (0, 0, 60): -1, (0, 2, 0): 0})
        self.same(made.letters, 3)
        self.same(made.degree, 60)
        self.same(list(made.terms.items()), [((4, 0, 0), (3, 1)), ((0, 1, 2), (1, 2)), ((0, 0, 60), (-1, 1))])
        self.same((Formula(8, {}).terms, Formula(8, {}).degree, Formula(8, {}).letters), ({}, -1, 8))
        self.same(Formula(1, {(0,): 5}).degree, 0)

    def test_letters_at_their_bounds(self):
        for letters in (1, 8):
            made = Formula(letters, {(60,) * letters: (LONG, LONG + 1)})
            self.same((made.letters, made.degree), (letters, 60 * letters))
        self.same(str(Formula(8, {(1, 2, 3, 4, 5, 6, 7, 8): 1})), "a*b^2*c^3*d^4*e^5*f^6*g^7*h^8")

    def test_errors_of_a_formula(self):
        wrong = NO_TUPLES[:6] + (
            {(1, 0): 1, 1: 1}, {(1,): 1}, {(1, 0, 0): 1}, {(61, 0): 1}, {(-1, 0): 1}, {(True, 0): 1}, {(0, None): 1},
            {(0, LONG): 1}, {"ab": 1}, {(1, 0): True}, {(1, 0): None}, {(1, 0): (2, 4)}, {(1, 0): (1, 0)},
            {(1, 0): "1"}, {(1, 0): [1, 2]}, [((1, 0), 1)], (((1, 0), 1),), {(1, 0): A}, {None: None}, A, Formula(2, {}),
        )
        self.refuses_in_order(Formula, (2, InvalidCount, (0, 9, -1) + NO_INTEGERS), ({}, InvalidFormula, wrong))

    def test_terms_at_their_bounds(self):
        terms = {(at // 50, at % 50): at for at in range(2000)}
        self.assertEqual(len(Formula(2, terms).terms), 1999)
        terms[(41, 0)] = 0
        self.refuses(InvalidFormula, Formula, 2, terms)
        self.refuses(InvalidFormula, Formula, 1, {(61,): 0})
        self.same(str(Formula(1, {(60,): 1})), "a^60")

    def test_letter_and_plain(self):
        for letters in (1, 2, 8):
            for place in range(letters):
                spot = tuple([int(at == place) for at in range(letters)])
                self.same(Formula.letter(letters, place).terms, {spot: (1, 1)})
            self.same(Formula.plain(letters, (-3, 7)).terms, {(0,) * letters: (-3, 7)})
            self.same(Formula.plain(letters, 0).terms, {})
        wrong = (0, 9, -1) + NO_INTEGERS
        self.refuses_in_order(Formula.letter, (3, InvalidCount, wrong), (2, InvalidCount, (3, -1) + NO_INTEGERS))
        self.refuses_in_order(Formula.plain, (3, InvalidCount, wrong), (2, InvalidFormula, NO_NUMBERS))

    def test_coefficient_at(self):
        self.same([SAMPLES[6].coefficient_at(spot) for spot in ((2, 0), (1, 1), (0, 0), (5, 5), (60, 60))],
                  [(1, 2), (-1, 1), (3, 1), (0, 1), (0, 1)])
        wrong = NO_TUPLES + (
            (), (1,), (1, 0, 0), (61, 0), (0, -1), (True, 1), (1, True), (None, 0), (1, [0]), (LONG, 0),
        )
        self.refuses_in_order(SAMPLES[6].coefficient_at, ((1, 1), InvalidFormula, wrong))

    def test_sums_and_products_by_values(self):
        for one in SAMPLES:
            for other in SAMPLES:
                for values in POINTS:
                    at, by = Fraction(*worth(one, values)), Fraction(*worth(other, values))
                    for made, wanted in ((one.plus(other), at + by), (one.minus(other), at - by),
                                         (one.times(other), at * by)):
                        self.same(made.at(values), (wanted.numerator, wanted.denominator))

    def test_sums_and_products_with_numbers(self):
        for number in (0, 3, (0, 1), (-2, 3), 10 ** 99):
            plain = Formula.plain(2, number)
            for one in SAMPLES:
                self.assertEqual(one.plus(number), one.plus(plain))
                self.assertEqual(one.minus(number), one.minus(plain))
                self.assertEqual(one.times(number), one.times(plain))
                self.assertEqual(one.times(number), plain.times(one))

    def test_errors_of_sums_and_products(self):
        for call in (A.plus, A.minus, A.times):
            self.refuses_in_order(call, (B, InvalidFormula, NO_FORMULAS))
            for other in (ONE, Formula(3, {}), Formula.plain(8, 1)):
                self.refuses(InvalidOperation, call, other)

    def test_sums_with_too_many_terms(self):
        full = grid(2, 49, 2000)
        self.same(len(full.plus(A).terms), 2000)
        self.refuses(TooMany, full.plus, Formula(2, {(50, 0): 1}), kept=(2000,))
        self.refuses(TooMany, full.minus, Formula(2, {(50, 0): 1}), kept=(2000,))
        # A term goes while another one comes.
        self.same(len(full.minus(Formula(2, {(50, 0): 1, (0, 0): 1})).terms), 2000)
        self.same(full.minus(full).terms, {})

    def test_products_with_too_many(self):
        self.same(Formula(1, {(59,): 1}).times(ONE).degree, 60)
        self.refuses(TooMany, Formula(1, {(60,): 1}).times, ONE, kept=(60,))
        for place in (0, 7):
            high = Formula(8, {tuple([60 * int(at == place) for at in range(8)]): 1})
            self.refuses(TooMany, high.times, Formula.letter(8, place), kept=(60,))
            self.same(high.times(Formula.letter(8, 7 - place)).degree, 61)
        row, column = grid(3, 0, 1), Formula(3, {(0, 0, at): 1 for at in range(40)})
        self.same(grid(3, 49, 50).times(column).degree, 88)
        self.same(len(grid(3, 49, 50).times(column).terms), 2000)
        self.refuses(TooMany, grid(3, 50, 51).times, column, kept=(2000,))
        self.assertEqual(row.times(column), column)
        # Both at once: the exponents are told first.
        high = Formula(3, {(0, 0, at): 1 for at in range(61)})
        self.refuses(TooMany, high.times, grid(3, 6, 49).plus(Formula.letter(3, 2)), kept=(60,))
        self.same(Formula(1, {}).times(Formula(1, {(60,): 1})).terms, {})

    def test_products_in_which_much_goes(self):
        # (1 + a + .. + a^20) (1 - a) has two terms, and so for b: 2,000 in the end, 3,000 on the way.
        long = Formula(4, {(at, by, 0, 0): 1 for at in range(21) for by in range(30)})
        ends = (((0, 0), 1), ((0, 1), -1), ((1, 0), -1), ((1, 1), 1))
        short = Formula(4, {end + (at // 20, at % 20): sign for end, sign in ends for at in range(500)})
        for made in (long.times(short), short.times(long)):
            self.same(len(made.terms), 2000)
            self.same([made.coefficient_at((at, by, 24, 19)) for at in (0, 21) for by in (0, 30)],
                      [(1, 1), (-1, 1), (-1, 1), (1, 1)])
        more = long.plus(Formula(4, {(40, 0, 0, 0): 1}))
        self.refuses(TooMany, more.times, short, kept=(2000,))
        self.refuses(TooMany, short.times, more, kept=(2000,))

    def test_raised(self):
        for one in SAMPLES:
            made = Formula.plain(2, 1)
            for many in range(6):
                self.assertEqual(one.raised(many), made)
                made = made.times(one)
        self.same(str(Formula(1, {}).raised(0)), "1")
        self.same(Formula(1, {(0,): (1, 2)}).raised(40).terms, {(0,): (1, 2 ** 40)})
        self.same(ONE.raised(40).degree, 40)
        self.refuses_in_order(A.raised, (2, InvalidCount, (-1, 41) + NO_INTEGERS))
        self.refuses(TooMany, Formula(1, {(2,): 1}).raised, 31, kept=(60,))
        self.same(Formula(1, {(2,): 1}).raised(30).degree, 60)
        letters = Formula(4, {tuple([int(at == place) for at in range(4)]): 1 for place in range(4)})
        self.same(len(letters.raised(20).terms), 1771)
        self.refuses(TooMany, letters.raised, 21, kept=(2000,))

    def test_part(self):
        for one in SAMPLES:
            total = Formula(2, {})
            for degree in range(6):
                part = one.part(degree)
                self.assertTrue(all([sum(spot) == degree for spot in part.terms]))
                total = total.plus(part)
            self.assertEqual(total, one)
        self.same(A.part(LONG - 1).terms, {})
        self.refuses_in_order(A.part, (1, InvalidCount, (-1, -LONG + 1) + NO_INTEGERS))

    def test_derived(self):
        self.same(str(SAMPLES[7].derived(0)), "5/2*a^2*b + 2")
        self.same(str(SAMPLES[7].derived(1)), "5/6*a^3 - 7/2*b")
        self.same(str(Formula.plain(2, 5).derived(1)), "0")
        for one in SAMPLES:
            for other in SAMPLES:
                for place in (0, 1):
                    both = one.derived(place).times(other).plus(one.times(other.derived(place)))
                    self.assertEqual(one.times(other).derived(place), both)
        self.refuses_in_order(A.derived, (1, InvalidCount, (2, -1) + NO_INTEGERS))

    def test_at(self):
        for one in SAMPLES:
            for values in POINTS:
                self.same(one.at(values), worth(one, values))
        wrong = NO_TUPLES + ((), (1,), (1, 2, 3), [1, 2], (True, 1), (1, None), (1, (2, 4)), (A, B), (1, (1, 0)))
        self.refuses_in_order(A.at, ((1, (1, 2)), InvalidFormula, wrong))
        # A pair is no number for each letter of a formula in one letter, but one number is.
        self.same(ONE.at(((1, 2),)), (1, 2))
        self.refuses(InvalidFormula, ONE.at, (1, 2))

    def test_put_in_by_values(self):
        parts = [Formula(3, {(1, 0, 2): (1, 2), (0, 0, 0): -1}), Formula(3, {}), Formula.letter(3, 2).plus((1, 3))]
        for one in SAMPLES:
            for first in parts:
                for second in parts:
                    made = one.put_in((first, second))
                    self.same(made.letters, 3)
                    for values in ((1, 2, 3), ((1, 2), (-3, 5), 7)):
                        self.same(made.at(values), one.at((first.at(values), second.at(values))))

    def test_errors_of_put_in(self):
        wrong = NO_TUPLES + ((), (A,), (A, A, A), [A, A], (A, 1), (1, A), (A, None), (A, (1, 2)), {A.degree: A})
        self.refuses_in_order(A.put_in, ((A, B), InvalidFormula, wrong))
        self.refuses(InvalidOperation, A.put_in, (A, ONE))
        self.refuses(InvalidFormula, A.put_in, (ONE, A, A))
        self.refuses(InvalidFormula, A.put_in, (ONE, 1))

    def test_put_in_with_too_many(self):
        square = Formula(1, {(2,): 1})
        self.same(str(Formula(1, {(30,): 1}).put_in((square,))), "a^60")
        self.refuses(TooMany, Formula(1, {(31,): 1}).put_in, (square,), kept=(60,))
        # The formulas on the way count, also if what comes in the end has fewer terms:
        # (1 + a + .. + a^59) b (1 - a) has two terms for each of 60 b, but 60 * 60 on the way.
        long = Formula(2, {(at, 0): 1 for at in range(60)})
        wide = Formula(2, {(0, at): 1 for at in range(60)})
        short = Formula(2, {(0, 0): 1, (1, 0): -1})
        letters = Formula(3, {(1, 1, 1): 1})
        self.same(len(letters.put_in((long, short, wide)).terms), 120)
        self.refuses(TooMany, letters.put_in, (long, wide, short), kept=(2000,))
        # The sum counts term by term: the first two terms have 2,400 together, the third takes most away.
        low = Formula(2, {(at // 60, at % 60): 1 for at in range(1200)})
        high = Formula(2, {(at // 60, at % 60): 1 for at in range(1200, 2400)})
        self.refuses(TooMany, Formula(2, {(1, 0): 1, (0, 1): 1}).put_in, (low, high), kept=(2000,))
        half = [Formula(2, {(at // 60, at % 60): 1 for at in range(1000 * by, 1000 * by + 1000)}) for by in (0, 1)]
        self.same(len(Formula(2, {(1, 0): 1, (0, 1): 1}).put_in((half[0], half[1])).terms), 2000)
        # The greatest exponents come first, so here it is the exponent that is told.
        self.refuses(TooMany, Formula(1, {(31,): 1, (1,): 1}).put_in, (square.plus(1),), kept=(60,))

    def test_bool_and_equality(self):
        self.assertIs(bool(A), True)
        self.assertIs(bool(A.minus(A)), False)
        self.assertIs(bool(Formula.plain(8, (1, 10 ** 70))), True)
        self.assertTrue(Formula(2, {(1, 0): (1, 1), (0, 1): 0}) == A)
        self.assertFalse(Formula(2, {(1, 0): (1, 1), (0, 1): 0}) != A)
        self.assertFalse(Formula(2, {}) == Formula(1, {}))
        self.assertTrue(Formula.plain(1, 1) != 1)
        self.assertTrue(ONE != A)
        for value in ANY_VALUES:
            self.assertFalse(A == value)
            self.assertTrue(A != value)
        self.assertIn(A, (1, "a", Formula.letter(2, 0)))

    def test_texts(self):
        told = (
            ({}, "0"), ({(0, 0, 0): 1}, "1"), ({(0, 0, 0): -1}, "-1"), ({(1, 0, 0): 1}, "a"), ({(0, 0, 1): -1}, "-c"),
            ({(2, 0, 1): (1, 2)}, "1/2*a^2*c"), ({(2, 0, 1): (-3, 1), (0, 1, 0): (-1, 2)}, "-3*a^2*c - 1/2*b"),
            ({(0, 0, 0): (-5, 7), (0, 10, 0): 1, (1, 1, 1): 12}, "12*a*b*c + b^10 - 5/7"),
            ({(1, 0, 0): -1, (0, 0, 0): (1, 3), (0, 0, 2): (-1, 9)}, "-a - 1/9*c^2 + 1/3"),
        )
        for terms, text in told:
            self.same(str(Formula(3, terms)), text)

    def test_objects_share_no_state(self):
        terms = {(1, 0): 1, (0, 1): (1, 2)}
        made = Formula(2, terms)
        terms[(0, 1)] = 7
        made.terms[(1, 0)] = (9, 1)
        made.terms.clear()
        self.same(str(made), "a + 1/2*b")
        self.same(terms, {(1, 0): 1, (0, 1): 7})
        for name in ("letters", "terms", "degree"):
            with self.assertRaises(AttributeError):
                setattr(made, name, 1)
        before = str(SAMPLES[6])
        SAMPLES[6].plus(A), SAMPLES[6].times(A), SAMPLES[6].raised(3), SAMPLES[6].put_in((A, B)), SAMPLES[6].derived(0)
        self.same(str(SAMPLES[6]), before)

    def test_no_iteration(self):
        with self.assertRaises(TypeError):
            iter(A)
        with self.assertRaises(TypeError):
            list(A)

    def test_the_degree_of_a_sum_can_be_less(self):
        self.assertEqual(A.plus(1).minus(A).degree, 0)
        self.assertEqual(A.minus(A).degree, -1)


class TestFitted(Case):
    def test_fitted_has_the_values(self):
        for many in (1, 2, 3, 9, 60):
            spots = [(-1) ** at * at * at * at + at for at in range(many)]
            points = {spot: (spot, 7) if spot % 7 else (1, at + 1) for at, spot in enumerate(spots)}
            made = fitted(points)
            self.same(made.letters, 1)
            self.assertLess(made.degree, many)
            for spot, value in points.items():
                self.same(made.at((spot,)), value)

    def test_fitted_finds_the_formula(self):
        for terms in ({}, {(0,): (1, 2)}, {(5,): 1, (2,): (-3, 7), (0,): 4}, {(59,): (2, 3)}):
            one = Formula(1, terms)
            self.assertEqual(fitted({spot: one.at((spot,)) for spot in range(-20, 40)}), one)
        self.same(str(fitted({LONG - 1: 0, 1 - LONG: 0})), "0")
        self.same(str(fitted({5: 10 ** 99})), str(10 ** 99))
        ten = {spot: 0 for spot in range(10)}
        self.assertFalse(fitted(ten))
        self.assertTrue(fitted({**ten, 10: 1}))
        self.assertEqual(fitted({**ten, 10: 1}).at((9,)), (0, 1))

    def test_errors_of_fitted(self):
        wrong = NO_TUPLES[:11] + (
            {}, {True: 1}, {None: 1}, {"1": 1}, {(1, 2): 1}, {LONG: 1}, {1: True}, {1: None}, {1: (2, 4)}, {1: "1"},
            {1: [1]}, {1: A}, {1: 1, None: 2}, [(1, 1)], ((1, 1),), A, {at: at for at in range(61)},
        )
        self.refuses_in_order(fitted, ({1: 1}, InvalidFormula, wrong))
        points = {2: 3, 1: (1, 2)}
        fitted(points)
        self.same(points, {2: 3, 1: (1, 2)})
