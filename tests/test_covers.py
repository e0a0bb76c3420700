"""Stage 17: covers of a torus [17.1] to [17.6], and [0.18]."""

import itertools
import math
import random
from fractions import Fraction

from support import LONG, NO_INTEGERS, NO_WORDS, NO_TUPLES, TALE, Case, pair
from test_kinds import taken_back, then
from test_least import joined
from test_moves import every, product_by_swaps, rows

from swapsheets.base.formulas import Formula
from swapsheets.errors import InvalidCount, InvalidFormula, InvalidOperation, Refused, TooMany, UnknownName
from swapsheets.squares.lots import content_sum, lots
from swapsheets.torus import covers as module
from swapsheets.torus.covers import basic_series, cover_number, derived_formula, formula_of_row, linked_cover_number
from swapsheets.torus.covers import series_of, series_product, torus_formula, weight_of

EXAMPLES = """
>>> [cover_number(4, 0), cover_number(3, 2), linked_cover_number(4, 0), [linked_cover_number(d, 2) for d in (1, 2, 3, 4)], linked_cover_number(5, 4)]
[5, 18, (7, 4), [(0, 1), (2, 1), (16, 1), (60, 1)], (18304, 1)]
>>> [str(torus_formula(2)), torus_formula(3).coefficient_at((6, 0, 0)), weight_of(torus_formula(3)), series_of(torus_formula(2), 3)]
['1/5184*a^3 - 1/8640*a*b - 1/12960*c', (-1, 248832), 12, ((0, 1), (0, 1), (2, 1), (16, 1))]
>>> [basic_series("P", 3), basic_series("R", 2), series_product(((1, 1), (2, 1)), ((1, 2), (0, 1), (5, 1)))]
[((1, 1), (-24, 1), (-72, 1), (-96, 1)), ((1, 1), (-504, 1), (-16632, 1)), ((1, 2), (1, 1))]
>>> [derived_formula(Formula.letter(3, 0)) == Formula(3, {(2, 0, 0): (1, 12), (0, 1, 0): (-1, 12)}), formula_of_row(((1, 1), (240, 1), (2160, 1)), 4) == Formula(3, {(0, 1, 0): 1}), formula_of_row(((1, 1), (0, 1), (1, 1)), 4)]
[True, True, None]
>>> formula_of_row(((1, 1), (240, 1)), 4)
raises Refused(2)
"""
A, B, C = [Formula.letter(3, place) for place in range(3)]
NO_FORMULAS = (
    True, False, None, 0, 1, "", "a", (), (1,), [], [A], (A, B, C), {}, {(0, 0, 0): 1}, LONG, (1, 2), TALE,
    Formula(1, {}), Formula.plain(2, 1), Formula.letter(4, 0), Formula.letter(8, 7),
)
# No power rows of 1 to 41 fractions.
NO_POWER_ROWS = NO_TUPLES + (
    (), (1,), (0, 1), ((1, 1), 1), ((1, 1), None), ((2, 2),), ((0, 2),), ((1, 0),), ((1, -1),), ((1,),), ((1, 1, 1),), ((True, 1),),
    ((1, True),), ([1, 1],), [(1, 1)], ((1, 1),) * 42, (((1, 1),),), ((1, 1), (2, 4)), ((None, 1),), ("ab",), ((1, 1), Formula(1, {})),
)
EXPONENTS = {weight: [(first, second, third) for first in range(13) for second in range(7) for third in range(5)
                      if 2 * first + 4 * second + 6 * third == weight] for weight in range(0, 26, 2)}


def by_trying(total, many):
    """N and L, by all pairs of moves and all rows."""
    ways = {}
    for one in every(total):
        for other in every(total):
            turn = then(then(one, other), then(taken_back(one), taken_back(other)))
            ways.setdefault(turn, []).append((one, other))
    whole = linked = 0
    for row in rows(total, many):
        product = product_by_swaps(total, row)
        steps = tuple([product_by_swaps(total, (swap,)) for swap in row])
        for told in ways.get(taken_back(product), []):
            whole += 1
            linked += joined(told + steps)
    return Fraction(whole, math.factorial(total)), Fraction(linked, math.factorial(total))


def divisor_sum(number, power):
    return sum([divisor ** power for divisor in range(1, number + 1) if number % divisor == 0])


def times(one, other):
    """The product of two lists of entries, as long as the shorter one."""
    length = min(len(one), len(other))
    return [sum([one[here] * other[at - here] for here in range(at + 1)]) for at in range(length)]


def entries(letter, most):
    factor, power = {"P": (-24, 1), "Q": (240, 3), "R": (-504, 5)}[letter]
    return [1] + [factor * divisor_sum(number, power) for number in range(1, most + 1)]


def put_in(formula, most):
    """The series of a formula, term by term."""
    made = [Fraction(0)] * (most + 1)
    for exponents, number in formula.terms.items():
        part = [Fraction(*number)] + [Fraction(0)] * most
        for letter, many in zip("PQR", exponents):
            for _ in range(many):
                part = times(part, entries(letter, most))
        made = [here + there for here, there in zip(made, part)]
    return made


def row_of(numbers):
    return tuple([pair(number) for number in numbers])


def some_formula(weight, chance):
    """A formula of a weight, with fractions for some of its products of letters."""
    terms = {}
    for exponents in EXPONENTS[weight]:
        terms[exponents] = pair(Fraction(chance.randint(-50, 50), chance.randint(1, 30)))
    return Formula(3, terms)


class TestCovers(Case):
    def test_examples(self):
        self.runs(EXAMPLES, dict(vars(module)))

    def test_constants(self):
        self.same((module.MAX_COVERED, module.MOST_SWAPS, module.MOST_ENTRIES), (14, 12, 40))

    def test_numbers_by_trying_all(self):
        for total, most in ((1, 4), (2, 6), (3, 5), (4, 3)):
            for many in range(most + 1):
                whole, linked = by_trying(total, many)
                self.assertEqual(whole.denominator, 1)
                self.same(cover_number(total, many), int(whole))
                self.same(linked_cover_number(total, many), pair(linked))

    def test_numbers_by_contents(self):
        for total in range(1, 15):
            for many in range(13):
                wanted = sum([content_sum(shape) ** many for shape in lots(total)])
                self.same(cover_number(total, many), wanted)
                if many % 2 == 1:
                    self.same((cover_number(total, many), linked_cover_number(total, many)), (0, (0, 1)))
            self.same(linked_cover_number(total, 0), pair(Fraction(divisor_sum(total, 1), total)))
        self.same([cover_number(1, many) for many in (0, 1, 12)], [1, 0, 0])
        self.same([linked_cover_number(1, many) for many in (0, 1, 12)], [(1, 1), (0, 1), (0, 1)])

    def test_the_exponential(self):
        # d times N(d; r) is told by the lot of places that is joined with the place 0.
        for most in (0, 2, 12):
            for total in (1, 2, 7, 14):
                found = Fraction(0)
                for less in range(1, total + 1):
                    for here in range(most + 1):
                        rest = most - here
                        left = cover_number(total - less, rest) if less < total else int(rest == 0)
                        found += math.comb(most, here) * less * Fraction(*linked_cover_number(less, here)) * left
                self.assertEqual(found, total * cover_number(total, most))

    def test_errors_of_numbers(self):
        for call in (cover_number, linked_cover_number):
            self.refuses_in_order(call, (14, InvalidCount, (-1, 0, 15) + NO_INTEGERS), (12, InvalidCount, (-1, 13) + NO_INTEGERS))

    def test_torus_formulas(self):
        for genus in (2, 3):
            formula = torus_formula(genus)
            self.same((type(formula), formula.letters, weight_of(formula)), (Formula, 3, 6 * genus - 6))
            wanted = ((0, 1),) + tuple([linked_cover_number(degree, 2 * genus - 2) for degree in range(1, 15)])
            self.same(series_of(formula, 14), wanted)
            self.assertTrue(formula_of_row(wanted, 6 * genus - 6) == formula)
            self.assertIs(formula_of_row(wanted[:-1] + ((1, 1),), 6 * genus - 6), None)
        self.refuses_in_order(torus_formula, (3, InvalidCount, (-1, 0, 1, 4) + NO_INTEGERS))

    def test_basic_series(self):
        for letter in "PQR":
            for most in (0, 1, 5, 40):
                self.same(basic_series(letter, most), row_of(entries(letter, most)))
        self.refuses_in_order(basic_series, ("Q", UnknownName, NO_WORDS + ("p", "S", "PQ", "a", ("P",), ["P"], "P ")),
                              (40, InvalidCount, (-1, 41) + NO_INTEGERS))

    def test_series_of_formulas(self):
        chance = random.Random(17)
        told = [A, B, C, Formula(3, {}), Formula.plain(3, (-2, 3)), A.times(A).minus(B).times((1, 12)), A.times(B).times(C).plus(1)]
        told += [some_formula(weight, chance) for weight in (2, 8, 12)] + [A.raised(7).plus(B.raised(5)).minus(C.times((1, 10 ** 70)))]
        for formula in told:
            for most in (0, 1, 9, 14):
                self.same(series_of(formula, most), row_of(put_in(formula, most)))
        self.same(series_of(A, 40), basic_series("P", 40))
        self.same(series_of(Formula(3, {}), 40), ((0, 1),) * 41)
        self.refuses_in_order(series_of, (A, InvalidFormula, NO_FORMULAS), (40, InvalidCount, (-1, 41) + NO_INTEGERS))

    def test_great_formulas(self):
        chance, terms = random.Random(18), {(60, 60, 60): (1, 3)}
        while len(terms) < 2000:
            terms[tuple([chance.randint(0, 60) for _ in range(3)])] = pair(Fraction(chance.randint(-10 ** 30, 10 ** 30), chance.randint(1, 999)))
        formula = Formula(3, terms)
        found = series_of(formula, 40)
        # The entry at the power 0 is the sum of all fractions, and the next one that of their products with -24 a + 240 b - 504 c.
        self.same(found[0], pair(sum([Fraction(*number) for number in terms.values()])))
        steps = [Fraction(*number) * (-24 * first + 240 * second - 504 * third) for (first, second, third), number in terms.items()]
        self.same(found[1], pair(sum(steps)))
        self.assertEqual(len(found), 41)
        self.assertIs(weight_of(formula), None)

    def test_products_of_rows(self):
        chance = random.Random(19)
        for here, there in ((1, 1), (1, 41), (5, 7), (41, 41), (12, 3)):
            told = []
            for length in (here, there):
                told.append([Fraction(chance.randint(-99, 99), chance.randint(1, 50)) for _ in range(length)])
            one, other = row_of(told[0]), row_of(told[1])
            self.same(series_product(one, other), row_of(times(told[0], told[1])))
            self.same(series_product(other, one), series_product(one, other))
        great = 10 ** 200 + 1
        self.same(series_product(((great, 2), (1, great)), ((1, 1), (1, 1))), row_of([Fraction(great, 2), Fraction(great, 2) + Fraction(1, great)]))
        for formulas in ((A, B), (A.plus(B), C.times(C)), (some_formula(6, chance), some_formula(4, chance))):
            self.same(series_product(series_of(formulas[0], 20), series_of(formulas[1], 20)), series_of(formulas[0].times(formulas[1]), 20))
        self.refuses_in_order(series_product, (((1, 1),) * 41, InvalidOperation, NO_POWER_ROWS), (((1, 2),), InvalidOperation, NO_POWER_ROWS))

    def test_derived_formulas(self):
        chance = random.Random(20)
        told = [A, B, C, Formula.plain(3, 5), Formula(3, {}), A.times(B).times(C), A.raised(3).plus(C).plus(B.raised(4)).minus(2)]
        told += [some_formula(weight, chance) for weight in range(0, 26, 4)]
        for formula in told:
            before = str(formula)
            wanted = [power * Fraction(*number) for power, number in enumerate(series_of(formula, 24))]
            derived = derived_formula(formula)
            self.same((type(derived), series_of(derived, 24)), (Formula, row_of(wanted)))
            if weight_of(formula) not in (None, 0):
                self.assertIn(weight_of(derived), (None, weight_of(formula) + 2))
                self.assertIs(weight_of(derived) is None, not derived)
            self.assertEqual(str(formula), before)
        self.assertFalse(derived_formula(Formula.plain(3, 5)))
        # [17.3], and the formula whose series is that of q times the product of all (1 - q ** n) ** 24.
        self.assertTrue(derived_formula(B) == A.times(B).minus(C).times((1, 3)))
        self.assertTrue(derived_formula(C) == A.times(C).minus(B.times(B)).times((1, 2)))
        whole = B.raised(3).minus(C.raised(2))
        self.assertTrue(derived_formula(whole) == A.times(whole))
        self.refuses_in_order(derived_formula, (A, InvalidFormula, NO_FORMULAS))

    def test_derived_formulas_at_their_bounds(self):
        for exponents in ((60, 0, 0), (60, 60, 60), (0, 60, 1), (1, 60, 0), (0, 59, 1), (0, 0, 60), (5, 2, 60), (60, 1, 1)):
            grown = [(exponents[0] + 1, exponents[1], exponents[2])]
            grown += [(exponents[0] - 1, exponents[1] + 1, exponents[2])] if exponents[0] else []
            grown += [(exponents[0], exponents[1] - 1, exponents[2] + 1)] if exponents[1] else []
            grown += [(exponents[0], exponents[1] + 2, exponents[2] - 1)] if exponents[2] else []
            if max([max(told) for told in grown]) > 60:
                self.refuses(TooMany, derived_formula, Formula(3, {exponents: 1}), kept=(60,))
            else:
                self.assertEqual(sorted(derived_formula(Formula(3, {exponents: 1})).terms), sorted(grown))
        # The exponent 61 that two terms make is 0 in all, if their fractions tell so.
        one, other = (2, 60, 0), (1, 59, 1)
        both = Formula(3, {one: 3, other: -1})
        self.assertNotIn((1, 61, 0), derived_formula_terms(both))
        self.refuses(TooMany, derived_formula, Formula(3, {one: 1}), kept=(60,))
        self.refuses(TooMany, derived_formula, Formula(3, {other: 1}), kept=(60,))
        self.refuses(TooMany, derived_formula, Formula(3, {one: 1, other: 1}), kept=(60,))
        self.same(dict(derived_formula(both).terms), {told: pair(number) for told, number in sorted(derived_formula_terms(both).items(), reverse=True)})

    def test_too_many_terms(self):
        # Terms whose shares are all apart: four each, or three.
        spread = [(first, second, third) for first in range(2, 60, 4) for second in range(1, 58, 6) for third in range(1, 58, 4)]
        for many in (1, 300, 499, 500, 501, 700, 1999):
            formula = Formula(3, {exponents: 1 for exponents in spread[:many]})
            found = len([number for number in derived_formula_terms(formula).values() if number])
            if found > 2000:
                self.refuses(TooMany, derived_formula, formula, kept=(2000,))
            else:
                self.assertEqual(len(derived_formula(formula).terms), found)
        # Both limits: the exponent comes first.
        formula = Formula(3, {**{exponents: 1 for exponents in spread[:1000]}, (60, 0, 0): 1})
        self.refuses(TooMany, derived_formula, formula, kept=(60,))

    def test_weights(self):
        for exponents in ((0, 0, 0), (1, 0, 0), (0, 1, 0), (0, 0, 1), (60, 60, 60), (3, 2, 1)):
            self.same(weight_of(Formula(3, {exponents: (1, 7)})), 2 * exponents[0] + 4 * exponents[1] + 6 * exponents[2])
        self.same(weight_of(A.times(A).plus(B)), 4)
        self.same(weight_of(A.times(B).minus(C).plus(A.raised(3))), 6)
        self.same([weight_of(A.plus(B)), weight_of(A.plus(1)), weight_of(Formula(3, {}))], [None, None, None])
        self.refuses_in_order(weight_of, (A, InvalidFormula, NO_FORMULAS))

    def test_formulas_of_rows(self):
        chance = random.Random(21)
        for weight in range(0, 26, 2):
            products = len(EXPONENTS[weight])
            for formula in (some_formula(weight, chance), Formula(3, {}), Formula(3, {EXPONENTS[weight][-1]: (3, 7)})):
                for most in (products, products + 1, 40):
                    row = series_of(formula, most)
                    self.assertTrue(formula_of_row(row, weight) == formula)
                    top, bottom = row[-1]
                    other = row[:-1] + (pair(Fraction(top, bottom) + 1),)
                    self.assertIs(formula_of_row(other, weight), None)
            for length in range(1, products + 1):
                self.refuses(Refused, formula_of_row, ((0, 1),) * length, weight, kept=(products,))
        self.same([len(EXPONENTS[weight]) for weight in (0, 2, 4, 24)], [1, 1, 2, 19])
        self.assertTrue(formula_of_row(((5, 3), (0, 1)), 0) == Formula.plain(3, (5, 3)))
        self.assertIs(formula_of_row(((5, 3), (1, 1)), 0), None)
        self.assertTrue(formula_of_row(((0, 1),) * 41, 24) == Formula(3, {}))
        great = 10 ** 99 + 7
        self.assertTrue(formula_of_row(((1, great), (-24, great), (-72, great)), 2) == Formula(3, {(1, 0, 0): (1, great)}))

    def test_errors_of_rows(self):
        weights = (-2, -1, 1, 3, 23, 25, 26) + NO_INTEGERS
        self.refuses_in_order(formula_of_row, (((0, 1),) * 41, InvalidOperation, NO_POWER_ROWS), (24, InvalidCount, weights))
        self.refuses(InvalidCount, formula_of_row, ((0, 1),), 25, kept=(25,))
        self.refuses(Refused, formula_of_row, ((0, 1),), 24, kept=(19,))
        self.refuses(InvalidOperation, formula_of_row, (), 24)

    def test_what_is_not_true(self):
        self.assertEqual([exponents for exponents in torus_formula(2).terms if exponents[0]], [(3, 0, 0), (1, 1, 0)])
        self.assertLess(Fraction(*linked_cover_number(5, 0)), Fraction(*linked_cover_number(4, 0)))


def derived_formula_terms(formula):
    """The terms of the derived formula, by the rules of [17.3], without any limit."""
    made = {}
    for (first, second, third), number in formula.terms.items():
        for exponents, share in (
            ((first + 1, second, third), Fraction(first, 12)), ((first - 1, second + 1, third), -Fraction(first, 12)),
            ((first + 1, second, third), Fraction(second, 3)), ((first, second - 1, third + 1), -Fraction(second, 3)),
            ((first + 1, second, third), Fraction(third, 2)), ((first, second + 2, third - 1), -Fraction(third, 2)),
        ):
            made[exponents] = made.get(exponents, 0) + share * Fraction(*number)
    return {exponents: number for exponents, number in made.items() if number}
