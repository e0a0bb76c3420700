"""What the tests share: wrong values, calls that must be refused, and the examples of the document."""

import unittest
from fractions import Fraction

from swapsheets.base.formulas import Formula
from swapsheets.drawn.drawings import Drawing
from swapsheets.strings.tales import Tale
from swapsheets.use.desk import Desk

LONG = 10 ** 60
TALE = Tale((1,), (), (0,))
DRAWING = Drawing(((0,),))
DESK = Desk(2)

# Values that are no integers, or none of at most sixty digits.
NO_INTEGERS = (
    True, False, None, "", "1", "all", (), (1,), (1, 1), [], [1], {}, {1: 1}, LONG, -LONG, 10 ** 99,
    Formula.plain(1, 1), TALE, DRAWING, DESK, ((((((((1,),),),),),),),), "x" * 4000,
)
# Values that are no dicts from lots with one sum to fractions other than 0, whatever the bound of the sum.
NO_SUMS = (
    True, False, None, 0, 1, "", "a", (), (1,), ((1,), (1, 1)), [], [1], [((1,), (1, 1))], LONG, Formula.plain(1, 1),
    {1: (1, 1)}, {None: (1, 1)}, {"a": (1, 1)}, {True: (1, 1)}, {(0,): (1, 1)}, {(1, 2): (1, 1)}, {(-1,): (1, 1)},
    {(True,): (1, 1)}, {(2, True): (1, 1)}, {((1,),): (1, 1)}, {(25,): (1, 1)}, {(1,) * 25: (1, 1)}, {(LONG,): (1, 1)},
    {(1,): (1, 1), (2,): (1, 1)}, {(): (1, 1), (1,): (1, 1)}, {(2, 1): (1, 1), (3,): (1, 1), (2, 2): (1, 1)},
    {(1,): None}, {(1,): "1"}, {(1,): True}, {(1,): False}, {(1,): 0}, {(1,): (0, 1)}, {(1,): (2, 2)}, {(1,): (2, 4)},
    {(1,): (1, 0)}, {(1,): (1, -1)}, {(1,): (1,)}, {(1,): (1, 1, 1)}, {(1,): ()}, {(1,): [1, 1]}, {(1,): (True, 1)},
    {(1,): (1, True)}, {(1,): (None, 1)}, {(1,): ("1", 1)}, {(1,): {}}, {(2, 1): (1, 1), (3,): (0, 1)},
    {(2, 1): (1, 1), (3,): (2, 6)}, {(1,): Formula.plain(1, 1)}, {(1,): {(1,): (1, 1)}},
    TALE, {(1,): TALE}, DRAWING, {(1,): DRAWING}, DESK,
)
# Values that are no tuples of integers at all.
NO_TUPLES = (
    True, False, None, 0, 1, -1, "", "1", "ab", [], [1], [0, 1], {}, {(1,): 1}, LONG, 10 ** 99,
    Formula.plain(1, 1), Formula(1, {}), TALE, DRAWING, DESK,
)
NO_WORDS = (
    True, False, None, 0, 1, "", "All", "all ", "alls", "none", (), ("all",), ["all"], {}, {"all": 1}, LONG,
    Formula.plain(1, 1), TALE, DRAWING, DESK, "x" * 4000,
)
ANY_VALUES = NO_INTEGERS + NO_TUPLES + NO_WORDS + (
    (1, 0), (0, 1), ((0, 1),), (True, 0), (0, True), (True,), ((0, True),), (None,), ("a",), ((1,),), [(0, 1)],
    (1, 2), (2, 1), (-1,), (LONG,), (10 ** 99, 1), {(): 1}, {(True,): 1}, {1: 1, "a": 2}, {None: None}, ([1],),
)


def same(one, other):
    """Whether two values are equal and of the same kinds throughout: True is not 1."""
    return one == other and repr(one) == repr(other)


def pair(number):
    """The fraction, as the package has it, of an integer or a Fraction."""
    found = Fraction(number)
    return (found.numerator, found.denominator)


def first_of(generator_function):
    """The function that asks for the first result."""
    return lambda *rest: next(generator_function(*rest))


class Case(unittest.TestCase):
    """A test case that can tell calls that must be refused."""

    def refuses(self, error, call, *rest, kept=()):
        """The call raises just this error, and the error keeps the one value of `kept`."""
        try:
            found = call(*rest)
        except Exception as caught:
            self.assertIs(type(caught), error, (rest, caught))
            if kept:
                (worth,) = vars(caught).values()
                self.assertTrue(same(worth, kept[0]), (rest, worth))
        else:
            self.fail(f"{rest!r:.300} gave {found!r:.300}")

    def refuses_in_order(self, call, *params):
        """Each parameter is a triple (good value, error, wrong values), in the order of the checks.

        Each wrong value is refused, also with wrong values behind it. Counts and names are kept.
        """
        call(*[good for good, _, _ in params])
        for at, (_, error, wrong) in enumerate(params):
            ahead = [good for good, _, _ in params[:at]]
            behind = [good for good, _, _ in params[at + 1:]]
            spoilt = [bad[0] for _, _, bad in params[at + 1:]]
            keeps = error.__name__ in ("InvalidCount", "UnknownName")
            for value in wrong:
                kept = (value,) if keeps else ()
                self.refuses(error, call, *ahead, value, *behind, kept=kept)
                self.refuses(error, call, *ahead, value, *spoilt, kept=kept)

    def judges(self, judge, right, wrong):
        """The judge returns True for each right value and False for each wrong one, and nothing else."""
        for value in right:
            self.assertIs(judge(value), True, repr(value)[:300])
        for value in wrong:
            self.assertIs(judge(value), False, repr(value)[:300])

    def same(self, one, other):
        """Equal, and of the same kinds throughout; dicts in the same order."""
        self.assertEqual(one, other)
        self.assertEqual(repr(one), repr(other))

    def runs(self, text, names):
        """Each line behind `>>> ` gives just what the line behind it says, as in the document."""
        lines = text.strip("\n").split("\n")
        seen = 0
        for at, line in enumerate(lines):
            if not line.startswith(">>> "):
                continue
            source = line[4:]
            wanted = lines[at + 1] if at + 1 < len(lines) else ">>> "
            if wanted.startswith(">>> "):
                exec(source, names)
            elif wanted.startswith("raises "):
                self.raises_as_told(source, names, wanted[len("raises "):])
                seen += 1
            else:
                self.assertEqual(repr(eval(source, names)), wanted, source)
                seen += 1
        self.assertGreater(seen, 0)

    def raises_as_told(self, source, names, wanted):
        """The source raises the error that is told, like `Name` or `Name(value)`."""
        try:
            found = eval(source, names)
        except Exception as caught:
            told = type(caught).__name__
            if "(" in wanted:
                (worth,) = vars(caught).values()
                told += f"({worth!r})"
            self.assertEqual(told, wanted, source)
        else:
            self.fail(f"{source} gave {found!r}")
