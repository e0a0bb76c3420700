"""All that the interface lists exists under its name, in the very file, with its arguments."""

import importlib
import inspect
import types
import unittest

# For each module: its constants, its functions with their parameters, its classes with
# the parameters of their methods, and their properties.
INTERFACE = {
    "swapsheets.base.numbers": (
        {"MAX_NAME": 8, "MAX_RAISED": 1000, "MAX_CHOSEN": 1000},
        "is_integer(value) is_name(value) is_fraction(value) is_number(value) fraction(top,bottom) added(one,other) "
        "multiplied(one,other) divided(one,other) power_of(number,many) factorial(number) binomial(top,low) "
        "falling(top,low) number_text(number)",
        {},
    ),
    "swapsheets.base.formulas": (
        {"MOST_LETTERS": 8, "MOST_EXPONENT": 60, "MOST_TERMS": 2000, "MOST_RAISED": 40},
        "fitted(points)",
        {"Formula": (
            "__init__(letters,terms) letter(letters,place) plain(letters,number) coefficient_at(exponents) plus(other) "
            "minus(other) times(other) raised(many) part(degree) derived(place) at(values) put_in(formulas) __bool__() "
            "__eq__(other) __str__()", "letters terms degree")},
    ),
}
ERRORS = {
    "SheetError": None, "InvalidFormula": None, "InvalidLot": None, "InvalidMove": None, "InvalidSwap": None,
    "InvalidRow": None, "InvalidEnds": None, "InvalidMix": None, "InvalidWay": None, "InvalidDrawing": None,
    "InvalidPledge": None, "InvalidOperation": None, "ParseError": "spot", "InvalidCount": "value",
    "UnknownName": "name", "NothingToUndo": "wanted", "TooMany": "limit", "Refused": "reason",
}


def told(texts):
    """Pairs of a name and the list of its parameters."""
    for text in texts.split():
        name, rest = text.rstrip(")").split("(")
        yield name, [part for part in rest.split(",") if part]


class TestInterface(unittest.TestCase):
    def test_constants(self):
        for module, (constants, _, _) in INTERFACE.items():
            found = importlib.import_module(module)
            for name, value in constants.items():
                self.assertEqual(getattr(found, name), value)

    def test_functions(self):
        for module, (_, functions, _) in INTERFACE.items():
            found = importlib.import_module(module)
            for name, params in told(functions):
                function = getattr(found, name)
                self.assertIsInstance(function, types.FunctionType)
                self.assertEqual(function.__module__, module)
                self.assertEqual(list(inspect.signature(function).parameters), params, name)

    def test_classes(self):
        for module, (_, _, classes) in INTERFACE.items():
            found = importlib.import_module(module)
            for name, (methods, properties) in classes.items():
                own = vars(getattr(found, name))
                self.assertEqual(own["__module__"], module)
                for method, params in told(methods):
                    raw = own[method]
                    function = raw.__func__ if isinstance(raw, classmethod) else raw
                    self.assertEqual(list(inspect.signature(function).parameters)[1:], params, method)
                for attribute in properties.split():
                    self.assertIn(attribute, own)

    def test_errors(self):
        found = importlib.import_module("swapsheets.errors")
        for name, attribute in ERRORS.items():
            error = getattr(found, name)
            self.assertEqual(error.__module__, "swapsheets.errors")
            self.assertTrue(issubclass(error, Exception))
            made = error("a")
            if attribute:
                self.assertEqual(vars(made), {attribute: "a"})
