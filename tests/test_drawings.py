"""Stage 16: drawings [16.1] to [16.5], [16.8]."""

import itertools
import random

from support import ANY_VALUES, DRAWING, NO_INTEGERS, NO_TUPLES, TALE, Case
from test_kinds import taken_back, then
from test_lots import kind_of_move
from test_moves import NO_MOVES, every

from swapsheets.base.formulas import Formula
from swapsheets.drawn import drawings as module
from swapsheets.drawn.drawings import Drawing, any_renaming, are_alike, is_renaming, own_renamings
from swapsheets.errors import InvalidCount, InvalidDrawing, InvalidMove, InvalidOperation

EXAMPLES = """
>>> RING, FLAT = Drawing(((1, 0, 3, 2, 5, 4), (2, 3, 4, 5, 0, 1))), Drawing(((1, 0, 3, 2), (0, 2, 1, 3)))
>>> [RING.closing, RING.kinds, RING.genera, own_renamings(RING), str(RING)]
[(5, 4, 1, 0, 3, 2), ((2, 2, 2), (3, 3), (6,)), (1,), 6, 'drawing of 6 places, kinds 2+2+2 3+3 6']
>>> [FLAT.kinds, FLAT.genera, FLAT.rotated().kinds, FLAT.mirrored().moves, are_alike(FLAT, FLAT.mirrored().exchanged(0))]
[((2, 2), (2, 1, 1), (4,)), (0,), ((2, 1, 1), (4,), (2, 2)), ((0, 2, 1, 3), (1, 0, 3, 2)), True]
>>> FLAT.exchanged(1)
raises InvalidCount(1)
"""
# No tuples of one to five moves of one size from 1 to 8.
NO_DRAWN = NO_TUPLES + (
    (), (0,), (1, 0), ((),), ((0, 1), (0, 1, 2)), ((1, 0), None), ((1, 0), (1, 1)), ((True, 0),), ((1, False),), ([1, 0],), [(1, 0)],
    (None, (1, 0)), (0, (1, 0)), ("", (1, 0)), ((), (0,)), ([0, 1], (0, 1)), (True, (0,)), (DRAWING, (0,)),
    ((0,),) * 6, (((0,),),), (tuple(range(9)),), (tuple(range(24)),), ((0, 1), "ab"), ((0, 2),), ((0,), ()), ({0: 0},), (DRAWING,),
)
NO_DRAWINGS = (
    True, False, None, 0, 1, "", "drawing", (), ((0,),), ((1, 0), (0, 1)), [], [((0,),)], {}, Formula.plain(1, 1), TALE, (DRAWING,), [DRAWING],
)


def carried(move, by):
    """The move that leads by[i] to by[move[i]]."""
    return tuple([by[move[taken_back(by)[place]]] for place in range(len(move))])


def led(moves, by):
    return tuple([carried(move, by) for move in moves])


def closing_of(moves):
    made = tuple(range(len(moves[0])))
    for move in moves:
        made = then(made, move)
    return taken_back(made)


def pieces_of(moves):
    """The least lots of places that all moves keep, by taking places together as long as moves lead out."""
    lots = [{place} for place in range(len(moves[0]))]
    for move in moves:
        for place, end in enumerate(move):
            here, there = [lot for lot in lots if place in lot][0], [lot for lot in lots if end in lot][0]
            if here is not there:
                lots.remove(there)
                here |= there
    return tuple(sorted([tuple(sorted(lot)) for lot in lots]))


def genera_of(moves):
    found = []
    for lot in pieces_of(moves):
        around = 0
        for move in moves + (closing_of(moves),):
            names = {place: at for at, place in enumerate(lot)}
            around += len(kind_of_move(tuple([names[move[place]] for place in lot])))
        twice = 2 - (around - (len(moves) - 1) * len(lot))
        assert twice % 2 == 0 and twice >= 0
        found.append(twice // 2)
    return tuple(found)


def new_names(moves, root):
    """The moves with the new names of [16.5], by keeping all names in a dict."""
    names, at = {root: 0}, 0
    while at < len(names):
        place = [here for here, name in names.items() if name == at][0]
        for move in moves:
            if move[place] not in names:
                names[move[place]] = len(names)
        at += 1
    return led(moves, tuple([names[place] for place in range(len(moves[0]))]))


def some_moves(size, many, number, chance):
    """So many rows of moves, joined ones and others."""
    found = []
    for _ in range(number):
        row = []
        for _ in range(many):
            move = list(range(size))
            for _ in range(chance.choice((0, 1, 2, size))):
                here, there = chance.randrange(size), chance.randrange(size)
                move[here], move[there] = move[there], move[here]
            row.append(tuple(move))
        found.append(tuple(row))
    return found


def samples():
    """Rows of moves of all sizes and numbers of moves."""
    chance = random.Random(16)
    found = [told for size in range(1, 9) for many in range(1, 6) for told in some_moves(size, many, 4, chance)]
    # In alike pieces, and in pieces that are alike but for the sequence of moves.
    found += [((1, 0, 3, 2, 5, 4),), ((1, 0, 3, 2, 4), (0, 1, 2, 3, 4)), ((1, 0, 2, 3), (0, 1, 3, 2)), ((1, 2, 0, 4, 5, 3, 7, 6),) * 2]
    return found


class TestDrawings(Case):
    def test_examples(self):
        self.runs(EXAMPLES, dict(vars(module)))

    def test_constants(self):
        self.same((module.MAX_DRAWN, module.MAX_MOVES), (8, 5))

    def test_properties(self):
        for moves in samples():
            drawing = Drawing(moves)
            closing = closing_of(moves)
            self.same((drawing.size, drawing.moves, drawing.closing), (len(moves[0]), moves, closing))
            self.same(drawing.kinds, tuple([kind_of_move(move) for move in moves + (closing,)]))
            self.same((drawing.pieces, drawing.genera), (pieces_of(moves), genera_of(moves)))
            self.assertIs(drawing.is_joined, len(pieces_of(moves)) == 1)
            self.assertIsInstance(drawing, Drawing)
        self.same(str(Drawing(((0,),))), "drawing of 1 places, kinds 1 1")
        self.same(str(Drawing(((1, 0, 2), (1, 2, 0)))), "drawing of 3 places, kinds 2+1 3 2+1")
        self.same(str(Drawing(((1, 0),) * 5)), "drawing of 2 places, kinds 2 2 2 2 2 2")
        self.same(str(Drawing((tuple(range(8)),))), "drawing of 8 places, kinds 1+1+1+1+1+1+1+1 1+1+1+1+1+1+1+1")

    def test_errors_of_drawings(self):
        self.refuses_in_order(Drawing, (((0, 1),) * 5, InvalidDrawing, NO_DRAWN))
        Drawing((tuple(range(8)),) * 5)

    def test_a_drawing_never_changes(self):
        drawing = Drawing(((1, 0, 2), (1, 2, 0)))
        for name in ("size", "closing", "kinds", "pieces", "genera", "is_joined"):
            with self.assertRaises(AttributeError):
                setattr(drawing, name, None)
        shown = [repr(part) for part in (drawing.moves, drawing.closing, drawing.kinds, drawing.pieces, drawing.genera)]
        for other in (drawing.renamed((2, 1, 0)), drawing.mirrored(), drawing.rotated(), drawing.exchanged(0), drawing.named_from(2)):
            self.assertIsInstance(other, Drawing)
            self.same(own_renamings(drawing), own_renamings(other))
        self.assertEqual(shown, [repr(part) for part in (drawing.moves, drawing.closing, drawing.kinds, drawing.pieces, drawing.genera)])
        for iterate in (iter, list):
            with self.assertRaises(TypeError):
                iterate(drawing)

    def test_renamed(self):
        chance = random.Random(1)
        for moves in samples():
            by = tuple(chance.sample(range(len(moves[0])), len(moves[0])))
            drawing = Drawing(moves)
            other = drawing.renamed(by)
            self.same(other.moves, led(moves, by))
            self.same((other.closing, other.kinds), (carried(drawing.closing, by), drawing.kinds))
            self.assertEqual(sorted(other.genera), sorted(drawing.genera))
            self.assertTrue(other.renamed(taken_back(by)) == drawing)
        self.refuses_in_order(Drawing(((0, 1, 2),)).renamed, ((2, 1, 0), InvalidMove, NO_MOVES + ((0, 1), (0, 1, 2, 3), (0,))))
        self.refuses_in_order(Drawing((tuple(range(8)),)).renamed, (tuple(range(8)), InvalidMove, NO_MOVES + ((0, 1), (0, 1, 2), (0,))))

    def test_mirrored_rotated_exchanged(self):
        for moves in samples():
            drawing = Drawing(moves)
            shape = (drawing.pieces, drawing.genera)
            mirrored, rotated = drawing.mirrored(), drawing.rotated()
            self.same(mirrored.moves, tuple([taken_back(move) for move in moves[::-1]]))
            self.same(mirrored.closing, taken_back(drawing.closing))
            self.same((rotated.moves, rotated.closing), (moves[1:] + (drawing.closing,), moves[0]))
            self.same((rotated.kinds, mirrored.kinds), (drawing.kinds[1:] + drawing.kinds[:1], drawing.kinds[:-1][::-1] + drawing.kinds[-1:]))
            self.assertTrue(mirrored.mirrored() == drawing)
            around = drawing
            for _ in range(len(moves) + 1):
                around = around.rotated()
            self.assertTrue(around == drawing)
            for other in (mirrored, rotated):
                self.same((other.pieces, other.genera), shape)
            for place in range(len(moves) - 1):
                first, second = moves[place], moves[place + 1]
                other = drawing.exchanged(place)
                ahead = then(then(first, second), taken_back(first))
                self.same(other.moves, moves[:place] + (ahead, first) + moves[place + 2:])
                self.same((other.pieces, other.genera, other.closing), shape + (drawing.closing,))

    def test_errors_of_exchanged(self):
        for many in range(1, 6):
            drawing = Drawing(((1, 0, 2),) * many)
            for place in (-1, many - 1, many) + NO_INTEGERS:
                self.refuses(InvalidCount, drawing.exchanged, place, kept=(place,))
            for place in range(many - 1):
                drawing.exchanged(place)

    def test_new_names(self):
        for moves in samples():
            drawing, size = Drawing(moves), len(moves[0])
            for root in range(size):
                if drawing.is_joined:
                    other = drawing.named_from(root)
                    self.same(other.moves, new_names(moves, root))
                    self.assertTrue(other.named_from(0) == other)
                    self.same((other.kinds, other.genera), (drawing.kinds, drawing.genera))
                else:
                    self.refuses(InvalidOperation, drawing.named_from, root)
            for root in (-1, size, 8) + NO_INTEGERS:
                self.refuses(InvalidCount, drawing.named_from, root, kept=(root,))
        # The moves are gone through one by one at each place, not the places move by move.
        self.same(Drawing(((1, 0, 3, 2), (2, 3, 0, 1))).named_from(3).moves, ((1, 0, 3, 2), (2, 3, 0, 1)))
        self.same(Drawing(((0, 1, 3, 2), (1, 2, 0, 3))).named_from(1).moves, new_names(((0, 1, 3, 2), (1, 2, 0, 3)), 1))

    def test_equal_drawings(self):
        drawing = Drawing(((1, 0, 2), (1, 2, 0)))
        self.assertTrue(drawing == Drawing(((1, 0, 2), (1, 2, 0))))
        self.assertFalse(drawing != Drawing(((1, 0, 2), (1, 2, 0))))
        others = (Drawing(((1, 0, 2),)), Drawing(((1, 2, 0), (1, 0, 2))), Drawing(((1, 0, 2), (1, 2, 0), (0, 1, 2))), drawing.moves)
        for other in others + ANY_VALUES:
            self.assertIs(drawing == other, False)
            self.assertIs(other == drawing, False)
            self.assertIs(drawing != other, True)
        self.assertIn(drawing, [None, drawing])
        self.assertNotIn(drawing, list(others))

    def test_all_small_pairs(self):
        # All drawings of two moves of three places, and of one move of four: every renaming tried.
        for size, many in ((1, 2), (2, 2), (3, 2), (4, 1)):
            rows = list(itertools.product(every(size), repeat=many))
            for one in rows:
                ways = {}
                for by in every(size):
                    ways.setdefault(led(one, by), []).append(by)
                here = Drawing(one)
                self.same(own_renamings(here), len(ways[one]))
                for other in rows[::1 if len(rows) < 30 else 5] + list(ways):
                    there = Drawing(other)
                    self.assertIs(are_alike(here, there), other in ways)
                    found = any_renaming(here, there)
                    self.assertIs(is_renaming(here, there, found), other in ways)
                    if other not in ways:
                        self.assertIs(found, None)
                    self.judges(lambda value: is_renaming(here, there, value), ways.get(other, []),
                                [by for by in every(size) if by not in ways.get(other, [])])

    def test_great_drawings(self):
        chance = random.Random(2)
        for moves in samples():
            drawing, size = Drawing(moves), len(moves[0])
            by = tuple(chance.sample(range(size), size))
            other = drawing.renamed(by)
            self.assertIs(are_alike(drawing, other), True)
            self.assertIs(is_renaming(drawing, other, by), True)
            self.assertIs(is_renaming(drawing, other, any_renaming(drawing, other)), True)
            self.same(own_renamings(drawing), own_renamings(other))
            if size <= 5:
                self.same(own_renamings(drawing), len([way for way in every(size) if led(moves, way) == moves]))
            if drawing.is_joined:
                self.assertEqual(size % own_renamings(drawing), 0)
                names = [drawing.named_from(root).moves for root in range(size)]
                self.same(own_renamings(drawing), names.count(names[0]))
                for apart in samples()[::9]:
                    there = Drawing(apart)
                    if there.is_joined and there.size == size and len(apart) == len(moves):
                        self.assertIs(are_alike(drawing, there), there.named_from(0).moves in names)
        # Two, three and four alike pieces, and pieces that are not.
        self.same(own_renamings(Drawing((tuple(range(8)),) * 5)), 40320)
        self.same(own_renamings(Drawing(((1, 0, 3, 2, 5, 4, 7, 6),))), 24 * 2 ** 4)
        self.same(own_renamings(Drawing(((1, 2, 0, 4, 5, 3, 7, 6),))), 2 * 9 * 2)
        self.same(own_renamings(Drawing(((1, 0, 2, 3), (0, 1, 3, 2)))), 4)
        self.same(own_renamings(Drawing(((1, 2, 0, 4, 5, 3), (2, 0, 1, 4, 5, 3)))), 9)

    def test_no_renaming(self):
        drawing = Drawing(((1, 0, 2), (1, 2, 0)))
        others = (Drawing(((1, 0, 2),)), Drawing(((1, 0, 2, 3), (1, 2, 0, 3))), Drawing(((1, 2, 0), (1, 0, 2))), Drawing(((1, 0, 2),) * 3))
        for other in others:
            for here, there in ((drawing, other), (other, drawing)):
                self.assertIs(are_alike(here, there), False)
                self.assertIs(any_renaming(here, there), None)
                self.judges(lambda value: is_renaming(here, there, value), (), ANY_VALUES + tuple(every(3)) + tuple(every(4)))
        wrong = ANY_VALUES[:40] + NO_MOVES + ((0, 1, 3, 2), (True, 0, 2), (1, 0), [1, 0, 2], (False, True, 2))
        self.judges(lambda value: is_renaming(drawing, drawing, value), ((0, 1, 2),), wrong)

    def test_errors_of_likeness(self):
        good = Drawing(((1, 0, 2), (1, 2, 0)))
        for call in (are_alike, any_renaming, lambda one, other: is_renaming(one, other, None)):
            self.refuses_in_order(call, (good, InvalidDrawing, NO_DRAWINGS), (good, InvalidDrawing, NO_DRAWINGS))
        self.refuses_in_order(own_renamings, (good, InvalidDrawing, NO_DRAWINGS))

    def test_what_is_not_true(self):
        # [16.8]: pieces and genera can be equal, too.
        found = {}
        for row in itertools.product([(1, 2, 0, 4, 3), (1, 2, 3, 0, 4)], every(5)):
            drawing = Drawing(row)
            if drawing.is_joined:
                found.setdefault((drawing.kinds, drawing.genera), []).append(drawing)
        unlike = [told for told in found.values() if not all([are_alike(told[0], drawing) for drawing in told])]
        self.assertTrue(unlike)
