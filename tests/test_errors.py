"""Stage 1: errors [1.1], [1.2]."""

import builtins

from support import LONG, Case

from swapsheets import errors

MESSAGES = (
    "InvalidFormula", "InvalidLot", "InvalidMove", "InvalidSwap", "InvalidRow", "InvalidEnds", "InvalidMix",
    "InvalidWay", "InvalidDrawing", "InvalidPledge", "InvalidOperation",
)
KEEPERS = (
    ("ParseError", "SheetError", "spot"), ("InvalidCount", "IndexError", "value"),
    ("UnknownName", "KeyError", "name"), ("NothingToUndo", "RuntimeError", "wanted"),
    ("TooMany", "OverflowError", "limit"), ("Refused", "ArithmeticError", "reason"),
)
PYTHONS_OWN = (ValueError, IndexError, KeyError, RuntimeError, OverflowError, ArithmeticError, TypeError)


class TestErrors(Case):
    def test_sheet_error(self):
        self.assertEqual(errors.SheetError.__bases__, (ValueError,))
        self.assertEqual(str(errors.SheetError("why")), "why")

    def test_errors_with_a_message(self):
        for name in MESSAGES:
            found = getattr(errors, name)
            self.assertEqual(found.__bases__, (errors.SheetError,), name)
            with self.assertRaises(ValueError):
                raise found("a message")

    def test_errors_that_keep(self):
        for name, base, attribute in KEEPERS:
            found = getattr(errors, name)
            wanted = errors.SheetError if base == "SheetError" else getattr(builtins, base)
            self.assertEqual(found.__bases__, (wanted,), name)
            for value in (0, True, None, "text", (1, [2]), {"a": 1}, -LONG, 10 ** 99, found, ""):
                self.assertIs(getattr(found(value), attribute), value)
            with self.assertRaises(wanted):
                raise found(3)

    def test_keepers_take_one_value(self):
        for name, _, _ in KEEPERS:
            with self.assertRaises(TypeError):
                getattr(errors, name)()
            with self.assertRaises(TypeError):
                getattr(errors, name)(1, 2)

    def test_no_error_is_derived_from_another(self):
        names = MESSAGES + tuple([name for name, _, _ in KEEPERS])
        found = [getattr(errors, name) for name in names]
        for one in found:
            for other in found:
                self.assertEqual(issubclass(one, other), one is other)

    def test_of_which_of_pythons_own_they_are(self):
        for name, base, _ in KEEPERS:
            found = getattr(errors, name)
            first = ValueError if base == "SheetError" else getattr(builtins, base)
            for one in PYTHONS_OWN:
                self.assertEqual(issubclass(found, one), issubclass(first, one), (name, one))
        for name in MESSAGES:
            for one in PYTHONS_OWN:
                self.assertEqual(issubclass(getattr(errors, name), one), one is ValueError)

    def test_long_values_are_kept_when_an_error_is_raised(self):
        for name, _, attribute in KEEPERS:
            with self.assertRaises(getattr(errors, name)) as caught:
                raise getattr(errors, name)(7 ** 9000)
            self.assertEqual(getattr(caught.exception, attribute), 7 ** 9000)
