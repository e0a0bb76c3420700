"""All that the interface lists exists under its name, in the very file, with its arguments."""

import importlib
import inspect
import os
import types
import unittest

from support import Case

# For each module: its constants, its functions with their parameters, its classes with
# the parameters of their methods, and their properties.
INTERFACE = {
    "swapsheets.base.numbers": (
        {"MAX_NAME": 8, "MAX_RAISED": 1000, "MAX_CHOSEN": 1000},
        "is_integer(value) is_name(value) is_fraction(value) is_number(value) fraction(top,bottom) added(one,other) "
        "multiplied(one,other) divided(one,other) power_of(number,many) factorial(number) binomial(top,low) "
        "falling(top,low) number_text(number)",
        {},
    ),
    "swapsheets.base.formulas": (
        {"MOST_LETTERS": 8, "MOST_EXPONENT": 60, "MOST_TERMS": 2000, "MOST_RAISED": 40},
        "fitted(points)",
        {"Formula": (
            "__init__(letters,terms) letter(letters,place) plain(letters,number) coefficient_at(exponents) plus(other) "
            "minus(other) times(other) raised(many) part(degree) derived(place) at(values) put_in(formulas) __bool__() "
            "__eq__(other) __str__()", "letters terms degree")},
    ),
    "swapsheets.squares.lots": (
        {"MAX_SUM": 24, "MAX_BEADS": 40, "MAX_FILLED": 60},
        "lots(total) is_lot(value) is_above(one,other) keepers(lot) renamings(lot) class_size(lot) conjugate(lot) "
        "squares_of(lot) contents(lot) content_sum(lot) hook(lot,square) hooks_product(lot) dimension(lot) "
        "less_square(lot) more_square(lot) beads(lot,rows) lot_of_beads(value) rims(lot,length) "
        "filled_number(lot,number)",
        {},
    ),
    "swapsheets.moving.moves": (
        {"MOST_PLACES": 24, "MOST_LISTED": 7, "MOST_ROW": 200},
        "is_move(value) is_swap(size,value) is_row(size,value) is_rising(size,value) is_strict(size,value) moves(size) "
        "behind(one,other) undone(move) renamed(one,other) cycles(move) kind_of(move) first_move(lot) "
        "swap_move(size,swap) row_product(size,row) least_number(move) parity(move) strict_row(move) row_of(move,many) "
        "is_row_of(move,value) row_number(size,many,word)",
        {},
    ),
    "swapsheets.charts.characters": (
        {"MAX_CHARTED": 14},
        "character(shape,lot) central_number(shape,lot) character_row(shape) character_column(lot) "
        "character_table(total) is_character_row(value) rims_put(shape,length) class_products(one,other) "
        "shares_of(values) values_of(shares)",
        {},
    ),
    "swapsheets.rising.weights": (
        {"MAX_RISING": 8, "MAX_WEIGHED": 14, "MOST_SWAPS": 200, "MAX_ROWS": 20000},
        "weighted_number(one,other,many,word) mixed_number(one,other,mix) series_number(one,other,many,weight) "
        "weight_table(total,word,many) rising_bottom(total) rising_top(one,other) cycle_table(total,number) "
        "inverse_table(total,number) rising_rows(size,many,move)",
        {},
    ),
    "swapsheets.kindred.kinds": (
        {"MAX_LISTED": 7, "MAX_KINDRED": 8, "MAX_KEPT": 20000, "MAX_KINDS": 6},
        "class_moves(lot) carrier(one,other) is_carrier(one,other,value) keeping(move) product_number(one,other,third) "
        "product_table(one,other) rows_of_kinds(lots,third) kinds_product(one,other) power_kind(lot,number) "
        "roots_number(lot,many)",
        {},
    ),
    "swapsheets.adding.contents": (
        {"MAX_ADDED": 5, "MOST_MOVED": 6, "MOST_EXPONENT": 40},
        "power_sum(shape,many) swap_sum(size,place) sum_times(one,other) symmetric_sum(size,word,many) "
        "made_number(shape,moves_sum) class_formula(lot)",
        {},
    ),
    "swapsheets.linked.numbers": (
        {"MAX_ENDS": 10, "MAX_LINKED": 14, "MOST_LINKED": 60, "MAX_TRIED": 20000},
        "genus_of(one,other,many) swaps_of_genus(one,other,genus) numbered_number(one,other,many,*,word) "
        "linked_number(one,other,many,*,word) numbered_from_linked(one,other,many,*,word) single_number(lot) "
        "rising_single_number(lot) linked_rows(move,lot,many) is_linked(move,row)",
        {},
    ),
    "swapsheets.walking.walks": (
        {"MAX_WALKED": 8, "MAX_SUM": 14, "MAX_MANY": 200, "MAX_FAR": 2000},
        "walk_table(total) rows_number(one,other,many) rows_from(one,other,many) walked(one,many) power_parts(one,other) "
        "powers_at(parts,many) least_recursion(total) numbers_to(one,other,most) least_many(one,other) "
        "any_blocks(one,other) are_blocks(one,other,value)",
        {},
    ),
    "swapsheets.strings.cutting": (
        {"MAX_CUT": 14, "MOST_CUTS": 200, "MAX_LINKED": 8, "MOST_LINKED": 20},
        "is_lots_sum(value) cut_apart(lots_sum) joined_up(lots_sum) cut_joined(lots_sum,many) sums_added(one,other) "
        "lots_pairing(one,other) lots_together(one,other) lots_meeting(one,other) diagram_sum(shape) "
        "diagram_shares(lots_sum) number_by_cutting(one,other,many) linked_sums(total,many)",
        {},
    ),
    "swapsheets.strings.tales": (
        {"MOST_STEPS": 12, "MOST_TALES": 20000},
        "tales(one,other,many) tales_number(one,other,many) tales_sum(one,other,many) linked_sum(one,other,many) "
        "tale_of(move,row)",
        {"Tale": ("__init__(lot,steps,ends) lot_behind(many) __eq__(other) __len__() __str__()",
                  "first_lot last_lot steps ends lengths weight is_linked genus")},
    ),
    "swapsheets.oneside.formulas": (
        {"MAX_SUM": 24, "MAX_GENUS": 20, "MAX_TOLD": 6},
        "sheet_series(most) one_side_entry(lot,genus) one_side_number(lot,genus) one_side_formula(genus) "
        "one_side_in_ends(genus,ends) round_rows(size,genus) is_one_swap_less(lot,genus,value) one_swap_less(lot,genus)",
        {},
    ),
    "swapsheets.rooming.rooms": (
        {"MOST_ENDS": 6, "MOST_ROUND": 4},
        "is_ends(value,genus) is_free(ends) walls_for(size) room_of(ends) are_one_room(one,other) ends_number(ends,genus) "
        "piece(ends,genus) pieces_beside(ends) wall_jump(ends)",
        {},
    ),
    "swapsheets.leastrows.least": (
        {"MAX_FACTORS": 8, "MAX_CACTI": 20000},
        "genus_of_row(moves) cactus_number(lots) cacti(lots) is_cactus(lots,value) turned_cactus(lots,value) "
        "least_rows_number(lot,many) least_rows(move,many) is_least_row(move,many,value)",
        {},
    ),
    "swapsheets.drawn.drawings": (
        {"MAX_DRAWN": 8, "MAX_MOVES": 5},
        "are_alike(one,other) any_renaming(one,other) is_renaming(one,other,value) own_renamings(drawing)",
        {"Drawing": ("__init__(moves) renamed(move) mirrored() rotated() exchanged(place) named_from(root) __eq__(other) "
                     "__str__()", "size closing kinds pieces genera is_joined")},
    ),
    "swapsheets.drawn.bases": (
        {"MAX_TOTAL": 14, "MAX_JOINED": 8, "MAX_KINDS": 6, "MAX_GENUS": 10},
        "base_number(genus,total,kinds) joined_base_number(genus,total,kinds)",
        {},
    ),
    "swapsheets.torus.covers": (
        {"MAX_COVERED": 14, "MOST_SWAPS": 12, "MOST_ENTRIES": 40},
        "cover_number(total,many) linked_cover_number(total,many) torus_formula(genus) basic_series(letter,most) "
        "series_of(formula,most) series_product(one,other) derived_formula(formula) weight_of(formula) "
        "formula_of_row(row,weight)",
        {},
    ),
    "swapsheets.braided.braids": (
        {"MAX_BRAIDED": 12, "MAX_WAY": 4000, "MAX_JUDGED": 20000},
        "stepped(size,row,step) led_by(size,row,way) joined_lots(size,row) numbers_of(size,row) first_row(size,row) "
        "are_braided(size,one,other) parting(size,one,other) braid_way(size,one,other) is_braid_way(size,one,other,value) "
        "braid_lot(size,row) braid_lots_number(size,many)",
        {},
    ),
    "swapsheets.use.desk": (
        {"MAX_ROWS": 6, "MAX_SWAPS": 12, "MAX_PLEDGES": 10},
        "is_pledge(value)",
        {"Desk": (
            "__init__(size) put(name,row) chain(name,one,other) swap_in(name,place,swap) take_out(name,place) "
            "braid(name,way) turn(name,move) drop(name) rename(names) demand(pledge) waive(pledge) undo(*,many) "
            "redo(*,many) trial() during(call) twin() row_named(name) __contains__(x) __len__() __iter__() __eq__(other) "
            "__str__()", "size names lines pledges changes")},
    ),
}
ERRORS = {
    "SheetError": None, "InvalidFormula": None, "InvalidLot": None, "InvalidMove": None, "InvalidSwap": None,
    "InvalidRow": None, "InvalidEnds": None, "InvalidMix": None, "InvalidWay": None, "InvalidDrawing": None,
    "InvalidPledge": None, "InvalidOperation": None, "ParseError": "spot", "InvalidCount": "value",
    "UnknownName": "name", "NothingToUndo": "wanted", "TooMany": "limit", "Refused": "reason",
}


TOP = os.path.dirname(os.path.dirname(os.path.abspath(__file__)))


def told(texts):
    """Triples of a name, the list of its parameters, and those of them that are passed by keyword."""
    for text in texts.split():
        name, rest = text.rstrip(")").split("(")
        ahead, _, behind = rest.partition("*")
        params, keywords = [[part for part in half.split(",") if part] for half in (ahead, behind)]
        yield name, params + keywords, keywords


def keywords_of(function):
    """The parameters of a function that are passed by keyword alone."""
    params = inspect.signature(function).parameters.values()
    return [param.name for param in params if param.kind is param.KEYWORD_ONLY]


class TestInterface(unittest.TestCase):
    def test_constants(self):
        for module, (constants, _, _) in INTERFACE.items():
            found = importlib.import_module(module)
            for name, value in constants.items():
                self.assertEqual(getattr(found, name), value)

    def test_functions(self):
        for module, (_, functions, _) in INTERFACE.items():
            found = importlib.import_module(module)
            for name, params, keywords in told(functions):
                function = getattr(found, name)
                self.assertEqual(keywords_of(function), keywords)
                self.assertIsInstance(function, types.FunctionType)
                self.assertEqual(function.__module__, module)
                self.assertEqual(list(inspect.signature(function).parameters), params, name)

    def test_classes(self):
        for module, (_, _, classes) in INTERFACE.items():
            found = importlib.import_module(module)
            for name, (methods, properties) in classes.items():
                own = vars(getattr(found, name))
                self.assertEqual(own["__module__"], module)
                for method, params, keywords in told(methods):
                    raw = own[method]
                    function = raw.__func__ if isinstance(raw, classmethod) else raw
                    self.assertEqual(keywords_of(function), keywords)
                    self.assertEqual(list(inspect.signature(function).parameters)[1:], params, method)
                for attribute in properties.split():
                    self.assertIn(attribute, own)

    def test_kinds_of_bases(self):
        for name in ("base_number", "joined_base_number"):
            params = inspect.signature(getattr(importlib.import_module("swapsheets.drawn.bases"), name)).parameters
            self.assertIs(params["kinds"].kind, inspect.Parameter.VAR_POSITIONAL)

    def test_errors(self):
        found = importlib.import_module("swapsheets.errors")
        for name, attribute in ERRORS.items():
            error = getattr(found, name)
            self.assertEqual(error.__module__, "swapsheets.errors")
            self.assertTrue(issubclass(error, Exception))
            made = error("a")
            if attribute:
                self.assertEqual(vars(made), {attribute: "a"})


class TestReadme(Case):
    def test_examples(self):
        with open(os.path.join(TOP, "README.md"), encoding="utf-8") as file:
            blocks = file.read().split("```")[1::2]
        examples = [block for block in blocks if ">>> " in block]
        self.assertTrue(examples)
        for block in examples:
            self.runs(block, {})
