"""Stage 19: a desk [19.1] to [19.3], and [0.2] as far as it speaks of what changes."""

import random

from support import ANY_VALUES, DESK, LONG, NO_INTEGERS, NO_TUPLES, Case
from test_braids import NO_WAYS, ROW, by_way, told_of
from test_kinds import then
from test_lots import NO_LOTS, kind_of_move
from test_moves import NO_MOVES, NO_SWAPS, product_by_swaps, swaps

from swapsheets.errors import InvalidCount, InvalidMove, InvalidOperation, InvalidPledge, InvalidRow, InvalidSwap
from swapsheets.errors import InvalidWay, NothingToUndo, Refused, TooMany, UnknownName
from swapsheets.use import desk as module
from swapsheets.use.desk import Desk, is_pledge

EXAMPLES = """
>>> desk, kept = Desk(4), ("kind", "one", (3, 1))
>>> [desk.put("one", ((0, 1), (1, 2))), desk.put("two", ()), desk.swap_in("two", 0, (2, 3)), desk.demand(kept)]
[((), ('one: 0-1 1-2 makes 3 1',)), ((), ('two: none makes 1 1 1 1',)), (('two: none makes 1 1 1 1',), ('two: 2-3 makes 2 1 1',)), ((), ())]
>>> [desk.braid("one", (1,)), desk.row_named("one"), desk.chain("all", "one", "two"), str(desk)]
[(('one: 0-1 1-2 makes 3 1',), ('one: 0-2 0-1 makes 3 1',)), ((0, 2), (0, 1)), ((), ('all: 0-2 0-1 2-3 makes 4',)), 'desk of 4 places, 3 rows, 1 pledges']
>>> desk.take_out("one", 0)
raises Refused(('kind', 'one', (3, 1)))
>>> [desk.waive(kept), desk.take_out("one", 0)[1], desk.undo(many=2), desk.redo(), desk.changes]
[((), ()), ('one: 0-1 makes 2 1 1',), (('one: 0-1 makes 2 1 1',), ('one: 0-2 0-1 makes 3 1',)), ((), ()), 7]
"""
NAMES = ("a", "one", "two", "zz", "abcdefgh", "row", "b")
NO_NAMES = (
    True, False, None, 0, 1, "", "A", "One", "one two", "a1", "abcdefghi", "a-b", " a", "one ", (), ("one",), ["one"], {}, {"one": 1},
    LONG, DESK, "x" * 4000, "_", ("one", "two"),
)
PLEDGES = (
    ("product", "one", (1, 0)), ("product", "zz", tuple(range(24))), ("product", "a", (0,)), ("kind", "one", (3, 1)), ("kind", "one", ()),
    ("kind", "abcdefgh", (24,)), ("kind", "one", (1,) * 24), ("rising", "one"), ("linked", "two"), ("led", "one", "two"), ("led", "one", "one"),
)
NO_PLEDGES = NO_TUPLES + (
    (), ("rising",), ("linked",), ("rising", "one", "two"), ("linked", "one", "two"), ("led", "one"), ("led",), ("product", "one"),
    ("kind", "one"), ("rising", "One"), ("rising", None), ("linked", ""), ("linked", 1), ("rising", True), ("Rising", "one"),
    ("one", "rising"), (None, "one"), (True, "one"), (["rising"], "one"), (("rising",), "one"), ["rising", "one"], ("led", "one", "Two"),
    ("led", "one", None), ("led", None, "one"), ("led", "one", "two", "three"), ("led", 1, 2), ("product", "one", (1, 2)),
    ("product", "one", ()), ("product", "one", [1, 0]), ("product", "one", (True, 0)), ("product", "one", (False, True)),
    ("product", "one", None), ("product", "", (0, 1)), ("product", "one", tuple(range(25))), ("kind", "one", (1, 3)), ("kind", "one", (25,)),
    ("kind", "one", [3, 1]), ("kind", "one", (True,)), ("kind", "one", 3), ("kind", 1, (3, 1)), ("kind", "abcdefghi", (1,)), ("kinds", "one", (1,)),
    ("rows", "one"), ("product", "one", (1, 0), (1, 0)), ("rising", ["one"]), ({}, "one"), (DESK, "one"), ("linked", DESK), ("rising", ("one",)),
)
# No rows of four places, of any length.
NO_DESK_ROWS = NO_TUPLES + (
    (0,), (0, 1), ((0, 4),), ((1, 0),), ((0, 1), (1, 1)), ((0, 1), None), ((0, True),), ([0, 1],), (((0, 1),),), ((0, 1, 2),), ((0, 1), ()),
    ("ab",), ((0, LONG),), ((-1, 1),), [(0, 1)], ((0, 1),) * 13 + ((0, 4),), ((0, 1),) * 201 + (None,),
)


def holds(size, table, pledge):
    """Whether a pledge holds for a dict from names to rows, by [19.2]."""
    names = pledge[1:] if pledge[0] == "led" else pledge[1:2]
    if not all([name in table for name in names]):
        return False
    row = table[names[0]]
    product = product_by_swaps(size, row)
    if pledge[0] == "product":
        return product == pledge[2]
    if pledge[0] == "kind":
        return kind_of_move(product) == pledge[2]
    if pledge[0] == "rising":
        return [high for _, high in row] == sorted([high for _, high in row])
    if pledge[0] == "linked":
        return told_of(size, row)[1] == (tuple(range(size)),)
    return told_of(size, row) == told_of(size, table[names[1]])


class Model:
    """What a desk is, kept a second time: a list of states, and where in it the desk is."""

    def __init__(self, size):
        self.size, self.states, self.at = size, [({}, ())], 0

    def state(self):
        return self.states[self.at]

    def lines(self):
        found = []
        for name, row in sorted(self.state()[0].items()):
            told = " ".join([f"{low}-{high}" for low, high in row]) or "none"
            kind = " ".join([str(member) for member in kind_of_move(product_by_swaps(self.size, row))])
            found.append(f"{name}: {told} makes {kind}")
        return tuple(found)

    def news(self, lines):
        return tuple(sorted(set(lines) - set(self.lines()))), tuple(sorted(set(self.lines()) - set(lines)))

    def change(self, table, pledges):
        """The news, or the pledge that is broken."""
        for pledge in pledges:
            if not holds(self.size, table, pledge):
                return pledge
        lines = self.lines()
        self.states[self.at + 1:] = [(table, pledges)]
        self.at += 1
        return self.news(lines)

    def step(self, many):
        lines = self.lines()
        self.at += many
        return self.news(lines)

    def copy(self):
        other = Model(self.size)
        other.states, other.at = list(self.states), self.at
        return other


def with_row(table, name, row):
    return {**table, name: row}


def filled(size=4):
    """A desk with three rows, and with changes to take back and to do again."""
    desk = Desk(size)
    desk.put("one", ((0, 1), (1, 2)))
    desk.put("two", ())
    desk.put("row", ((0, 1),) * 12)
    desk.put("zz", ((2, 3),))
    desk.undo()
    return desk


def shown(desk):
    """All that can be seen of a desk."""
    back, ahead = 0, desk.twin()
    while True:
        try:
            ahead.redo()
        except NothingToUndo:
            break
        back += 1
    rows = tuple([desk.row_named(name) for name in desk.names])
    return repr((desk.size, desk.names, desk.lines, desk.pledges, desk.changes, rows, back, ahead.lines, list(desk), len(desk), str(desk)))


class TestPledges(Case):
    def test_is_pledge(self):
        self.judges(is_pledge, PLEDGES, NO_PLEDGES + ANY_VALUES)
        for name in ("a", "abcdefgh", "zz"):
            self.judges(is_pledge, (("rising", name), ("linked", name), ("led", name, name), ("kind", name, (2,)), ("product", name, (0,))), ())
        for name in NO_NAMES:
            self.judges(is_pledge, (), (("rising", name), ("led", name, "a"), ("led", "a", name), ("kind", name, (2,)), ("product", name, (0,))))
        for move in NO_MOVES:
            self.assertIs(is_pledge(("product", "one", move)), False)
        for lot in NO_LOTS:
            self.assertIs(is_pledge(("kind", "one", lot)), False)


class TestDesk(Case):
    def test_examples(self):
        self.runs(EXAMPLES, dict(vars(module)))

    def test_constants(self):
        self.same((module.MAX_ROWS, module.MAX_SWAPS, module.MAX_PLEDGES), (6, 12, 10))

    def test_a_desk_without_rows(self):
        for size in range(2, 9):
            desk = Desk(size)
            self.same((desk.size, desk.names, desk.lines, desk.pledges, desk.changes, len(desk)), (size, (), (), (), 0, 0))
            self.same((str(desk), list(desk)), (f"desk of {size} places, 0 rows, 0 pledges", []))
            self.same(desk.rename({}), ((), ()))
            self.same(desk.changes, 1)
        self.refuses_in_order(Desk, (8, InvalidCount, (-1, 0, 1, 9, 24) + NO_INTEGERS))

    def test_lines(self):
        desk = Desk(8)
        desk.put("b", ((0, 7), (1, 2), (0, 7)))
        desk.put("ab", ())
        desk.put("a", tuple([(place, place + 1) for place in range(7)]))
        wanted = ("a: 0-1 1-2 2-3 3-4 4-5 5-6 6-7 makes 8", "ab: none makes 1 1 1 1 1 1 1 1", "b: 0-7 1-2 0-7 makes 2 1 1 1 1 1 1")
        self.same((desk.lines, desk.names, tuple(desk)), (wanted, ("a", "ab", "b"), wanted))
        self.same([line in desk for line in wanted], [True] * 3)
        self.same(str(desk), "desk of 8 places, 3 rows, 0 pledges")

    def test_put(self):
        desk = filled()
        before = shown(desk)
        taken = ("one", "two", "row")
        self.refuses_in_order(lambda name, row: desk.twin().put(name, row), ("b", InvalidOperation, NO_NAMES + taken), (ROW, InvalidRow, NO_DESK_ROWS))
        for many in (13, 14, 200, 201, 500):
            self.refuses(TooMany, desk.put, "b", ((0, 1),) * many, kept=(12,))
            self.refuses(InvalidOperation, desk.put, "one", ((0, 1),) * many)
        self.assertEqual(shown(desk), before)
        for name in ("b", "zz", "a"):
            desk.put(name, ((0, 1),) * 12)
        before = shown(desk)
        self.refuses(TooMany, desk.put, "c", (), kept=(6,))
        self.refuses(TooMany, desk.put, "c", ((0, 1),) * 13, kept=(12,))
        self.refuses(InvalidRow, desk.put, "c", ((0, 4),))
        self.refuses(InvalidOperation, desk.put, "a", ())
        self.assertEqual(shown(desk), before)
        self.same(desk.drop("a")[0], ("a: " + " ".join(["0-1"] * 12) + " makes 1 1 1 1",))
        self.same(desk.put("c", ()), ((), ("c: none makes 1 1 1 1",)))

    def test_chain(self):
        desk = filled()
        desk.put("zz", ((2, 3),) * 6)
        before = shown(desk)
        names = tuple([name for name in NO_NAMES if name not in ("one", "two")]) + ("b", "three")
        self.refuses_in_order(lambda *rest: desk.twin().chain(*rest), ("b", InvalidOperation, NO_NAMES + ("one", "zz")), ("one", UnknownName, names),
                              ("two", UnknownName, names))
        self.refuses(TooMany, desk.chain, "b", "row", "one", kept=(12,))
        self.refuses(TooMany, desk.chain, "b", "zz", "row", kept=(12,))
        self.refuses(UnknownName, desk.chain, "b", "b", "two", kept=("b",))
        self.assertEqual(shown(desk), before)
        desk.chain("b", "zz", "zz")
        self.same(desk.row_named("b"), ((2, 3),) * 12)
        self.same(desk.chain("c", "one", "zz"), ((), ("c: 0-1 1-2 2-3 2-3 2-3 2-3 2-3 2-3 makes 3 1",)))
        self.refuses(TooMany, desk.chain, "d", "two", "two", kept=(6,))
        self.refuses(TooMany, desk.chain, "d", "row", "row", kept=(12,))
        self.same(desk.row_named("one"), ((0, 1), (1, 2)))

    def test_swap_in_and_take_out(self):
        desk = filled()
        before = shown(desk)
        unknown = NO_NAMES + ("zz", "b")
        self.refuses_in_order(lambda *rest: desk.twin().swap_in(*rest), ("one", UnknownName, unknown), (2, InvalidCount, (-1, 3) + NO_INTEGERS),
                              ((2, 3), InvalidSwap, NO_SWAPS))
        self.refuses_in_order(lambda *rest: desk.twin().take_out(*rest), ("one", UnknownName, unknown), (1, InvalidCount, (-1, 2) + NO_INTEGERS))
        self.refuses(TooMany, desk.swap_in, "row", 0, (0, 1), kept=(12,))
        self.refuses(InvalidSwap, desk.swap_in, "row", 12, (1, 0))
        self.refuses(InvalidCount, desk.swap_in, "row", 13, (1, 0), kept=(13,))
        self.refuses(InvalidCount, desk.take_out, "two", 0, kept=(0,))
        self.assertEqual(shown(desk), before)
        for place, wanted in ((0, ((2, 3), (0, 1), (1, 2))), (1, ((0, 1), (2, 3), (1, 2))), (2, ((0, 1), (1, 2), (2, 3)))):
            other = desk.twin()
            self.same(other.swap_in("one", place, (2, 3))[0], ("one: 0-1 1-2 makes 3 1",))
            self.same(other.row_named("one"), wanted)
            self.same(other.take_out("one", place)[1], ("one: 0-1 1-2 makes 3 1",))
            self.same((other.lines, other.changes), (desk.lines, desk.changes + 2))
        self.same(desk.swap_in("two", 0, (0, 3)), (("two: none makes 1 1 1 1",), ("two: 0-3 makes 2 1 1",)))
        self.same(desk.take_out("row", 11)[1], ("row: " + " ".join(["0-1"] * 11) + " makes 2 1 1",))
        self.same(desk.swap_in("row", 11, (0, 1))[1], ("row: " + " ".join(["0-1"] * 12) + " makes 1 1 1 1",))

    def test_braid_and_turn(self):
        desk = filled()
        desk.put("b", ROW)
        before = shown(desk)
        unknown = NO_NAMES + ("zz", "c")
        self.refuses_in_order(lambda *rest: desk.twin().braid(*rest), ("b", UnknownName, unknown), ((1, -2), InvalidWay, NO_WAYS))
        self.refuses_in_order(lambda *rest: desk.twin().turn(*rest), ("b", UnknownName, unknown),
                              ((3, 2, 1, 0), InvalidMove, NO_MOVES + ((0,), (0, 1, 2), (0, 1, 2, 3, 4))))
        for name, way in (("two", (1,)), ("one", (2,)), ("row", (12,)), ("two", (0,))):
            self.refuses(InvalidWay, desk.braid, name, way)
        self.assertEqual(shown(desk), before)
        chance = random.Random(1)
        for length in (0, 1, 5, 20000):
            way = tuple([chance.choice((-2, -1, 1, 2)) for _ in range(length)])
            other = desk.twin()
            old = other.lines
            other.braid("b", way)
            self.same(other.row_named("b"), by_way(ROW, way))
            self.same(other.changes, desk.changes + 1)
            self.assertEqual(other.undo()[1] == (), other.lines == old and other.row_named("b") == by_way(ROW, way))
        self.same(desk.braid("two", ()), ((), ()))
        self.same(desk.turn("b", (3, 1, 0, 2)), (("b: 0-1 1-2 0-2 makes 2 1 1",), ("b: 1-3 0-1 0-3 makes 2 1 1",)))
        self.same(desk.turn("two", (3, 1, 0, 2)), ((), ()))
        self.same(desk.row_named("b"), ((1, 3), (0, 1), (0, 3)))

    def test_drop_and_rename(self):
        desk = filled()
        before = shown(desk)
        self.refuses_in_order(lambda name: desk.twin().drop(name), ("two", UnknownName, NO_NAMES + ("zz", "b")))
        wrong = NO_TUPLES + (
            {"one": "a", "two": "b"}, {"one": "a", "two": "b", "row": "c", "zz": "d"}, {"one": "a", "two": "b", "zz": "c"}, {},
            {"one": "a", "two": "a", "row": "b"}, {"one": "a", "two": "b", "row": "B"}, {"one": "a", "two": "b", "row": None},
            {"one": "a", "two": "b", "row": 1}, {"one": "a", "two": "b", None: "c"}, {"one": "a", "two": "b", True: "c"},
            {"one": "a", "two": "b", "row": ["c"]}, {"one": "a", "two": "b", ("row",): "c"}, (("one", "a"), ("two", "b"), ("row", "c")),
            ("one", "two", "row"), {"one": "a", "two": "b", "row": "abcdefghi"}, {"one": "a", "two": "b", "row": ""},
        )
        good = {"row": "two", "two": "one", "one": "row"}
        self.refuses_in_order(lambda names: desk.twin().rename(names), (good, InvalidOperation, wrong))
        self.assertEqual(shown(desk), before)
        kept = desk.lines
        self.same(desk.rename({name: name for name in desk.names}), ((), ()))
        found = desk.rename(good)
        self.assertEqual(sorted(found[0]), sorted(kept))
        self.same([desk.row_named(name) for name in ("row", "one", "two")], [((0, 1), (1, 2)), (), ((0, 1),) * 12])
        self.same(desk.names, ("one", "row", "two"))
        self.assertEqual(good, {"row": "two", "two": "one", "one": "row"})
        desk.rename({"one": "zz", "row": "a", "two": "m"})
        self.same((desk.names, [line.split(":")[0] for line in desk]), (("a", "m", "zz"), ["a", "m", "zz"]))
        self.same(desk.drop("m")[1], ())
        self.same(desk.names, ("a", "zz"))

    def test_demand_and_waive(self):
        desk = filled()
        rising = ("rising", "one")
        before = shown(desk)
        self.refuses_in_order(lambda pledge: desk.twin().demand(pledge), (rising, InvalidPledge, NO_PLEDGES))
        self.assertEqual(shown(desk), before)
        for pledge in NO_PLEDGES + PLEDGES:
            self.refuses(InvalidOperation, desk.waive, pledge)
        self.assertEqual(shown(desk), before)
        told = (rising, ("rising", "two"), ("rising", "row"), ("led", "one", "one"), ("led", "two", "two"), ("led", "row", "row"),
                ("kind", "one", (3, 1)), ("kind", "two", (1, 1, 1, 1)), ("kind", "row", (1, 1, 1, 1)), ("product", "one", (2, 0, 1, 3)))
        for at, pledge in enumerate(told):
            self.same(desk.demand(pledge), ((), ()))
            self.same((desk.pledges, len(desk), pledge in desk), (told[:at + 1], at + 1, True))
            if at < 9:
                self.refuses(InvalidOperation, desk.demand, pledge)
        before = shown(desk)
        self.refuses(TooMany, desk.demand, ("product", "two", (0, 1, 2, 3)), kept=(10,))
        self.refuses(TooMany, desk.demand, ("linked", "two"), kept=(10,))
        self.refuses(InvalidOperation, desk.demand, told[9])
        self.refuses(InvalidPledge, desk.demand, ("linked", "Two"))
        self.assertEqual(shown(desk), before)
        self.same(desk.waive(told[4]), ((), ()))
        self.same(desk.pledges, told[:4] + told[5:])
        self.refuses(InvalidOperation, desk.waive, told[4])
        self.refuses(Refused, desk.demand, ("linked", "two"), kept=(("linked", "two"),))
        desk.demand(told[4])
        self.same(desk.pledges, told[:4] + told[5:] + told[4:5])
        # What equals a pledge of the desk, and has True in the place of 1, is none.
        likeness = ("product", "one", (2, False, True, 3))
        self.assertEqual(likeness, told[9])
        self.assertIs(likeness in desk, False)
        self.refuses(InvalidOperation, desk.waive, likeness)
        self.refuses(InvalidPledge, desk.demand, likeness)
        # A line of the desk is on the desk, but no pledge.
        self.assertIn(desk.lines[0], desk)
        self.refuses(InvalidOperation, desk.waive, desk.lines[0])

    def test_pledges_that_do_not_hold(self):
        desk = filled()
        desk.put("zz", ((1, 2), (0, 1)))
        for pledge in (("product", "one", (1, 2, 0, 3)), ("product", "one", (2, 0, 1)), ("product", "one", (0,)), ("product", "b", (0, 1, 2, 3)),
                       ("kind", "one", (3,)), ("kind", "one", (3, 1, 1)), ("kind", "one", ()), ("kind", "two", (2, 1, 1)), ("kind", "b", (3, 1)),
                       ("rising", "zz"), ("rising", "b"), ("linked", "one"), ("linked", "two"), ("linked", "b"), ("led", "one", "zz"),
                       ("led", "one", "b"), ("led", "b", "one"), ("led", "b", "b"), ("led", "two", "row")):
            before = shown(desk)
            self.refuses(Refused, desk.demand, pledge, kept=(pledge,))
            self.assertEqual(shown(desk), before)
        desk.put("c", ((0, 1), (1, 2), (1, 3)))
        for pledge in (("linked", "c"), ("led", "row", "row"), ("rising", "c"), ("kind", "c", (4,)), ("product", "two", (0, 1, 2, 3))):
            desk.demand(pledge)
        desk.braid("c", (1, 1))
        self.same(desk.row_named("c"), ((1, 2), (0, 2), (1, 3)))

    def test_each_method_that_breaks_a_pledge(self):
        desk = Desk(3)
        desk.put("one", ((0, 1), (1, 2)))
        desk.put("two", ((1, 2), (0, 2)))
        led = ("led", "one", "two")
        desk.demand(led)
        for pledge in (("rising", "one"), ("linked", "one"), ("kind", "two", (3,)), ("product", "one", (2, 0, 1))):
            desk.demand(pledge)
        before = shown(desk)
        for call, broken in (
            (lambda: desk.swap_in("one", 1, (0, 1)), led), (lambda: desk.take_out("two", 0), led), (lambda: desk.turn("one", (1, 0, 2)), led),
            (lambda: desk.drop("one"), led), (lambda: desk.drop("two"), led), (lambda: desk.rename({"one": "three", "two": "four"}), led),
            (lambda: desk.braid("one", (1,)), ("rising", "one")), (lambda: desk.rename({"one": "two", "two": "three"}), led),
            (lambda: desk.rename({"one": "zz", "two": "two"}), led), (lambda: desk.demand(("linked", "three")), ("linked", "three")),
        ):
            self.refuses(Refused, call, kept=(broken,))
            self.assertEqual(shown(desk), before)
        # The first one of several in the order of demands.
        desk.waive(led)
        desk.demand(led)
        for call, broken in ((lambda: desk.drop("one"), ("rising", "one")), (lambda: desk.drop("two"), ("kind", "two", (3,))),
                             (lambda: desk.take_out("one", 1), ("linked", "one")), (lambda: desk.turn("one", (1, 0, 2)), ("product", "one", (2, 0, 1)))):
            self.refuses(Refused, call, kept=(broken,))
        # Own errors come first, and what breaks no pledge is let.
        self.refuses(TooMany, lambda: Desk(2).put("a", ((0, 1),) * 13), kept=(12,))
        self.refuses(UnknownName, desk.drop, "zz", kept=("zz",))
        self.refuses(InvalidWay, desk.braid, "one", (1, 1, 2))
        desk.rename({"one": "one", "two": "two"})
        desk.put("zz", ())
        desk.chain("y", "one", "two")
        desk.braid("two", (1,))
        self.same(desk.pledges[-1], led)
        # The names of pledges stay where rows exchange theirs.
        desk.waive(led)
        desk.waive(("product", "one", (2, 0, 1)))
        desk.turn("two", (2, 1, 0))
        names = {"one": "two", "two": "one", "zz": "y", "y": "zz"}
        self.refuses(Refused, desk.rename, names, kept=(("rising", "one"),))
        desk.waive(("rising", "one"))
        desk.rename(names)
        self.same(desk.pledges, (("linked", "one"), ("kind", "two", (3,))))

    def test_braid_keeps_all_pledges_but_rising(self):
        chance = random.Random(3)
        for _ in range(40):
            size = chance.randint(2, 6)
            desk, row = Desk(size), tuple([chance.choice(swaps(size)) for _ in range(chance.randint(2, 12))])
            desk.put("one", row)
            desk.put("two", row)
            product = product_by_swaps(size, row)
            for pledge in (("product", "one", product), ("kind", "one", kind_of_move(product)), ("led", "one", "two"), ("led", "two", "one")):
                desk.demand(pledge)
            if told_of(size, row)[1] == (tuple(range(size)),):
                desk.demand(("linked", "one"))
            for _ in range(10):
                desk.braid("one", (chance.choice((-1, 1)) * chance.randint(1, len(row) - 1),))

    def test_undo_and_redo(self):
        desk = Desk(3)
        self.same([desk.undo(many=0), desk.redo(many=0)], [((), ())] * 2)
        for call in (desk.undo, desk.redo):
            for many in (1, 2, 10 ** 59):
                self.refuses(NothingToUndo, lambda: call(many=many), kept=(many,))
            self.refuses(NothingToUndo, call, kept=(1,))
            for many in (-1,) + NO_INTEGERS:
                self.refuses(InvalidCount, lambda: call(many=many), kept=(many,))
            with self.assertRaises(TypeError):
                call(1)
        seen = [desk.twin()]
        for call in (lambda: desk.put("one", ROW), lambda: desk.demand(("rising", "one")), lambda: desk.put("two", ()),
                     lambda: desk.waive(("rising", "one")), lambda: desk.braid("one", (1,)), lambda: desk.braid("one", ()), lambda: desk.drop("two")):
            call()
            seen.append(desk.twin())
            self.same(desk.changes, len(seen) - 1)
        for many in range(len(seen)):
            old = desk.lines
            news = desk.undo(many=many)
            there = seen[len(seen) - 1 - many]
            self.assertTrue(desk == there)
            self.same((desk.lines, desk.pledges, desk.changes), (there.lines, there.pledges, there.changes))
            self.same(news, (tuple(sorted(set(old) - set(desk.lines))), tuple(sorted(set(desk.lines) - set(old)))))
            self.refuses(NothingToUndo, lambda: desk.undo(many=there.changes + 1), kept=(there.changes + 1,))
            self.refuses(NothingToUndo, lambda: desk.redo(many=many + 1), kept=(many + 1,))
            back = desk.redo(many=many)
            self.same(back, (news[1], news[0]))
            self.assertTrue(desk == seen[-1])
        # Pledges are not asked: back to where the row does not rise, and to where it has to.
        desk.undo(many=4)
        self.same(desk.pledges, (("rising", "one"),))
        desk.redo(many=3)
        self.same(desk.pledges, ())
        # Behind another change there is nothing to be done again; a call that is refused is none.
        self.refuses(UnknownName, desk.drop, "three", kept=("three",))
        desk.redo()
        desk.undo()
        desk.put("three", ())
        self.refuses(NothingToUndo, desk.redo, kept=(1,))
        desk.undo()
        desk.redo()
        self.same(desk.names, ("one", "three", "two"))

    def test_trials(self):
        desk = filled()
        before = shown(desk)
        with desk.trial() as same:
            self.assertIs(same, desk)
            desk.put("b", ROW)
            desk.demand(("rising", "two"))
            with desk.trial() as again:
                self.assertIs(again, desk)
                inner = shown(desk)
                desk.undo(many=3)
                desk.drop("one")
            self.assertEqual(shown(desk), inner)
            desk.redo(many=0)
            desk.waive(("rising", "two"))
        self.assertEqual(shown(desk), before)
        desk.redo()
        self.assertIn("zz", desk.names)
        desk.undo()
        # An error goes on; what is taken back and done again within comes back, too.
        for error in (InvalidMove("no"), KeyError("no"), ZeroDivisionError()):
            with self.assertRaises(type(error)) as caught:
                with desk.trial():
                    desk.redo()
                    desk.undo(many=4)
                    raise error
            self.assertIs(caught.exception, error)
            self.assertEqual(shown(desk), before)
        with self.assertRaises(Refused):
            with desk.trial() as same:
                same.demand(("linked", "two"))
        self.assertEqual(shown(desk), before)
        # What counts is the state when the block is entered, not when the trial is made.
        late = desk.trial()
        desk.put("b", ())
        with late:
            desk.drop("b")
        self.assertIn("b", desk.names)
        with late:
            desk.undo()
        self.assertIn("b", desk.names)
        # The desk goes on as before, and so do its lists of changes.
        with desk.trial():
            desk.drop("b")
        desk.drop("b")
        self.same(desk.undo()[1], ("b: none makes 1 1 1 1",))

    def test_during(self):
        desk = filled()
        before = shown(desk)
        self.same(desk.during(lambda same: (same is desk, same.drop("one"), same.lines)), (True, (("one: 0-1 1-2 makes 3 1",), ()), desk.lines[1:]))
        self.assertIs(desk.during(lambda same: None), None)
        self.assertEqual(shown(desk), before)
        with self.assertRaises(UnknownName):
            desk.during(lambda same: (same.drop("one"), same.drop("one")))
        self.assertEqual(shown(desk), before)
        self.same(desk.during(lambda same: same.during(lambda again: again.drop("two")) and len(same.names)), 3)
        self.assertEqual(shown(desk), before)
        # A twin that is made within goes on by itself.
        twin = desk.during(lambda same: (same.drop("two"), same.twin())[1])
        self.same((twin.names, desk.names, twin.undo()[1]), (("one", "row"), ("one", "row", "two"), ("two: none makes 1 1 1 1",)))
        self.assertTrue(twin == desk)

    def test_twins(self):
        desk = filled()
        desk.demand(("rising", "one"))
        desk.put("zz", ROW)
        desk.undo()
        before = shown(desk)
        twin = desk.twin()
        self.assertIsNot(twin, desk)
        self.assertTrue(twin == desk)
        self.assertEqual(shown(twin), before)
        twin.redo()
        twin.drop("two")
        twin.waive(("rising", "one"))
        self.assertEqual(shown(desk), before)
        other = shown(twin)
        desk.undo(many=2)
        desk.put("c", ())
        self.assertEqual(shown(twin), other)
        twin.undo(many=twin.changes)
        self.same(twin.names, ())

    def test_equal_desks(self):
        desk, other = Desk(4), Desk(4)
        desk.put("one", ROW)
        other.put("two", ROW)
        self.assertFalse(desk == other)
        other.rename({"two": "one"})
        self.assertTrue(desk == other)
        self.assertFalse(desk != other)
        self.assertNotEqual(desk.changes, other.changes)
        told = (("rising", "two"), ("led", "one", "one"), ("kind", "one", (2, 1, 1)))
        for place in (desk, other):
            place.put("two", ())
        for pledge in told[1:]:
            desk.demand(pledge)
        for pledge in told[:0:-1]:
            other.demand(pledge)
        self.assertFalse(desk == other)
        other.waive(told[2])
        self.assertFalse(desk == other)
        other.demand(told[2])
        self.assertTrue(desk == other)
        other.swap_in("two", 0, (0, 1))
        self.assertFalse(desk == other)
        wide = Desk(5)
        wide.put("one", ROW)
        self.assertFalse(wide == Desk(5))
        for value in ANY_VALUES + (Desk(3), wide, other, desk.lines, desk.pledges):
            self.assertIs(desk == value, False)
            self.assertIs(value == desk, False)
            self.assertIs(desk != value, True)
        self.assertTrue(Desk(5) == Desk(5))
        self.assertFalse(Desk(5) == Desk(4))

    def test_what_is_on_a_desk(self):
        desk = filled()
        desk.demand(("rising", "one"))
        for value in ANY_VALUES + NO_PLEDGES + ("one", "one:", "one: 0-1 1-2 makes 3 1 ", ROW, ("one: 0-1 1-2 makes 3 1",), ("rising", "two"), desk):
            self.assertIs(value in desk, False, repr(value)[:200])
        for value in desk.lines + desk.pledges:
            self.assertIs(value in desk, True)
        self.same(list(iter(desk)), list(desk.lines))
        self.same([line for line in desk], list(desk.lines))

    def test_rows_named(self):
        desk = filled()
        self.same([desk.row_named(name) for name in desk.names], [((0, 1), (1, 2)), ((0, 1),) * 12, ()])
        self.refuses_in_order(desk.row_named, ("one", UnknownName, NO_NAMES + ("zz", "b")))

    def test_properties_are_read_alone(self):
        desk = filled()
        for name in ("size", "names", "lines", "pledges", "changes"):
            with self.assertRaises(AttributeError):
                setattr(desk, name, None)

    def test_changes_by_a_model(self):
        for seed in range(60):
            chance = random.Random(seed)
            size = chance.randint(2, 5)
            desk, model = Desk(size), Model(size)
            for _ in range(60):
                self.one_change(desk, model, chance)
                table, pledges = model.state()
                self.same((desk.lines, desk.pledges, desk.changes), (model.lines(), pledges, model.at))
                self.same((desk.names, [desk.row_named(name) for name in desk.names]), (tuple(sorted(table)), [table[name] for name in sorted(table)]))
                self.same(str(desk), f"desk of {size} places, {len(table)} rows, {len(pledges)} pledges")

    def one_change(self, desk, model, chance):
        """A change of any kind, of a desk and of its model, or the same refusal of both."""
        size, (table, pledges) = model.size, model.state()
        names = sorted(table)
        name = chance.choice(names or ["none"])
        row = table.get(name, ())
        word = chance.choice(("put", "chain", "swap", "swap", "take", "braid", "turn", "drop", "rename", "demand", "demand", "waive", "undo", "redo"))
        if word == "undo":
            many = chance.randint(0, min(3, model.at))
            self.same(desk.undo(many=many), model.step(-many))
            return
        if word == "redo":
            many = chance.randint(0, len(model.states) - 1 - model.at)
            self.same(desk.redo(many=many), model.step(many))
            return
        new = chance.choice([other for other in NAMES + ("c", "d") if other not in table])
        if word == "put" and len(table) < 6:
            row = tuple([chance.choice(swaps(size)) for _ in range(chance.randint(0, 4))])
            self.both(lambda: desk.put(new, row), model, with_row(table, new, row), pledges)
        elif word == "demand" and names and len(pledges) < 10:
            product = product_by_swaps(size, row)
            pledge = chance.choice((("product", name, product), ("kind", name, kind_of_move(product)), ("rising", name), ("linked", name),
                                    ("led", name, chance.choice(names)), ("kind", name, (size,)), ("product", name, then(product, product))))
            if pledge not in pledges:
                self.both(lambda: desk.demand(pledge), model, table, pledges + (pledge,))
        elif word == "waive" and pledges:
            pledge = chance.choice(pledges)
            self.both(lambda: desk.waive(pledge), model, table, tuple([other for other in pledges if other != pledge]))
        elif names:
            self.of_a_row(desk, model, chance, word, name, new)

    def of_a_row(self, desk, model, chance, word, name, new):
        size, (table, pledges) = model.size, model.state()
        row, place = table[name], chance.randint(0, len(table[name]))
        other = chance.choice(sorted(table))
        swap = chance.choice(swaps(size))
        move = tuple(chance.sample(range(size), size))
        if word == "chain" and len(table) < 6 and len(row + table[other]) <= 12:
            self.both(lambda: desk.chain(new, name, other), model, with_row(table, new, row + table[other]), pledges)
        elif word == "swap" and len(row) < 12:
            self.both(lambda: desk.swap_in(name, place, swap), model, with_row(table, name, row[:place] + (swap,) + row[place:]), pledges)
        elif word == "take" and place < len(row):
            self.both(lambda: desk.take_out(name, place), model, with_row(table, name, row[:place] + row[place + 1:]), pledges)
        elif word == "braid":
            way = tuple([chance.choice((-1, 1)) * chance.randint(1, len(row) - 1) for _ in range(3 if len(row) > 1 else 0)])
            self.both(lambda: desk.braid(name, way), model, with_row(table, name, by_way(row, way)), pledges)
        elif word == "turn":
            turned = tuple([tuple(sorted([move[low], move[high]])) for low, high in row])
            self.both(lambda: desk.turn(name, move), model, with_row(table, name, turned), pledges)
        elif word == "drop":
            self.both(lambda: desk.drop(name), model, {key: table[key] for key in table if key != name}, pledges)
        elif word == "rename":
            targets = chance.sample(NAMES, len(table)) if chance.random() < 0.5 else chance.sample(sorted(table), len(table))
            names = dict(zip(sorted(table), targets))
            self.both(lambda: desk.rename(names), model, {names[key]: table[key] for key in table}, pledges)

    def both(self, call, model, table, pledges):
        """The call has the news of the model, or is refused for its reason."""
        told = model.change(table, pledges)
        if told and isinstance(told[0], str):
            self.refuses(Refused, call, kept=(told,))
        else:
            self.same(call(), told)
