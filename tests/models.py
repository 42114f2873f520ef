"""What DOC.md says of the edits of a board, written from its words, and boards for the tests."""

import unittest
from random import Random

from tests.samples import LARGER_FORESTS, after_slide, all_settings, small_forests, touches
from treelamps.boards import Board

SOME_FORESTS = tuple(small_forests(4)) + LARGER_FORESTS
VALUE_COUNTS = {"light": 1, "dim": 1, "slide": 2, "grow": 1, "join": 2, "cut": 2}


def path_by_words(forest, first, second):
    """The path between two vertices, both included, or None."""
    paths = [(first,)]
    for path in paths:
        if path[-1] == second:
            return path
        beside = [v for v in range(forest[0]) if touches(forest, path[-1], v) and v not in path]
        paths.extend(path + (v,) for v in beside)
    return None


def is_vertex(forest, value):
    return type(value) is int and 0 <= value < forest[0]


def is_lamp(lamps, value):
    return type(value) is int and value in lamps


def lamps_beside(forest, lamps, vertex):
    return [lamp for lamp in sorted(lamps) if touches(forest, lamp, vertex)]


def light_error(forest, lamps, vertex):
    if not is_vertex(forest, vertex):
        return ("NoVertex", vertex)
    if vertex in lamps:
        return ("Lit", vertex)
    beside = lamps_beside(forest, lamps, vertex)
    return ("Blocked", beside[0]) if beside else None


def dim_error(forest, lamps, vertex):
    return None if is_lamp(lamps, vertex) else ("NoLamp", vertex)


def slide_error(forest, lamps, u, v):
    if not is_lamp(lamps, u):
        return ("NoLamp", u)
    if not is_vertex(forest, v) or not touches(forest, u, v):
        return ("NotAdjacent", v)
    others = [lamp for lamp in lamps_beside(forest, lamps, v) if lamp != u]
    return ("Blocked", others[0]) if others else None


def grow_error(forest, lamps, vertex):
    if forest[0] == 12:
        return ("TooManyVertices", 12)
    return None if vertex is None or is_vertex(forest, vertex) else ("NoVertex", vertex)


def join_error(forest, lamps, first, second):
    for value in (first, second):
        if not is_vertex(forest, value):
            return ("NoVertex", value)
    path = path_by_words(forest, first, second)
    if path is not None:
        return ("Cycle", path)
    return ("LampsMeet",) if first in lamps and second in lamps else None


def cut_error(forest, lamps, first, second):
    for value in (first, second):
        if not is_vertex(forest, value):
            return ("NoVertex", value)
    return None if touches(forest, first, second) else ("NotAdjacent", second)


ERRORS = {"light": light_error, "dim": dim_error, "slide": slide_error, "grow": grow_error, "join": join_error,
          "cut": cut_error}


def edit_error(forest, lamps, edit):
    """The name of the error that an edit raises, and its field if it has one, or None."""
    return ERRORS[edit[0]](forest, lamps, *edit[1:])


def after_edit(forest, lamps, edit):
    """The forest and the lamps after an edit that raises no error."""
    name, *values = edit
    n, edges = forest
    if name == "light":
        return (forest, tuple(sorted({*lamps, *values})))
    if name == "dim":
        return (forest, tuple(sorted(set(lamps) - set(values))))
    if name == "slide":
        return (forest, after_slide(lamps, *values))
    if name == "grow":
        return ((n + 1, edges if values == [None] else tuple(sorted({*edges, (values[0], n)}))), lamps)
    edge = tuple(sorted(values))
    return ((n, tuple(sorted({*edges, edge} if name == "join" else set(edges) - {edge}))), lamps)


def edits_over(values):
    """Every edit with these values."""
    ones = [(name, value) for name in ("light", "dim", "grow") for value in values]
    return ones + [(name, a, b) for name in ("slide", "join", "cut") for a in values for b in values]


def right_edits(forest, lamps):
    """Every edit that raises no error."""
    values = [None, *range(forest[0])]
    return [edit for edit in edits_over(values) if edit_error(forest, lamps, edit) is None]


def outcome(function, *arguments, **keywords):
    """("returned", result), or the name of the error's class and its fields."""
    try:
        return ("returned", function(*arguments, **keywords))
    except (ValueError, LookupError) as error:
        return (type(error).__name__, *vars(error).values())


def make(board, edit):
    """Calls the method of this name."""
    return getattr(board, edit[0])(*edit[1:])


def snapshot(board):
    """All that can be asked of a board."""
    versions = [(board.forest(version=k), board.lamps(version=k)) for k in range(len(board) + 1)]
    present = (board.forest(), board.lamps(), board.rigid(), board.normal())
    return (present, board.edits(), len(board), str(board), versions)


def drawn_board(number):
    """A board after drawn edits and undos, the states by its versions, and the edits that stand."""
    draw = Random(number)
    forest = draw.choice(SOME_FORESTS)
    states = [(forest, draw.choice(all_settings(forest)))]
    board = Board(*states[0])
    edits = []
    for _ in range(draw.choice((3, 15, 40))):
        if edits and draw.random() < 0.4:
            board.undo()
            edits.pop()
            states.pop()
        else:
            edits.append(draw.choice(right_edits(*states[-1])))
            make(board, edits[-1])
            states.append(after_edit(*states[-1], edits[-1]))
    return board, states, edits


def drawn_edits(draw, forest, lamps, many):
    """That many edits that raise no error, done one after another."""
    edits = []
    for _ in range(many):
        edits.append(draw.choice(right_edits(forest, lamps)))
        forest, lamps = after_edit(forest, lamps, edits[-1])
    return edits


def states_after(forest, lamps, edits):
    states = [(forest, lamps)]
    for edit in edits:
        states.append(after_edit(*states[-1], edit))
    return states


def board_states(board):
    return [(board.forest(version=k), board.lamps(version=k)) for k in range(len(board) + 1)]


class AttemptCase(unittest.TestCase):
    def check_fails(self, kind, fields, board, edits, **keywords):
        before = snapshot(board)
        with self.assertRaises(kind) as caught:
            board.attempt(edits, **keywords)
        self.assertIs(type(caught.exception), kind)
        self.assertEqual(repr(tuple(vars(caught.exception).values())), repr(fields))
        self.assertEqual(snapshot(board), before)
        self.check_not_busy(board)

    def check_not_busy(self, board):
        """The board accepts an edit and an undo, which leave it as it was."""
        before = snapshot(board)
        if len(board) == 60:
            self.assertEqual(outcome(board.grow, None), ("TooManyEdits",))
            return
        make(board, right_edits(board.forest(), board.lamps())[0])
        board.undo()
        self.assertEqual(snapshot(board), before)
