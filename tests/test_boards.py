"""Board and its six edits ([12])."""

import unittest
from random import Random

from tests.models import (
    SOME_FORESTS, VALUE_COUNTS, after_edit, edit_error, edits_over, make, outcome, right_edits, snapshot,
)
from tests.samples import (
    BARE_12, LARGE_FORESTS, LARGER_FORESTS, PATH_12, STAR_12, TREES_12, all_settings, is_free, odd_numbers,
    odd_values, small_forests, with_one_part_replaced,
)
from treelamps.boards import Board
from treelamps.errors import (
    BadForest, BadSetting, Blocked, Cycle, LampsMeet, Lit, NoLamp, NotAdjacent, NoVertex, TooManyEdits, TooManyVertices,
)
from treelamps.forests import forest_error

EMPTY = (0, ())
PATH_3 = (3, ((0, 1), (1, 2)))
PATH_4 = (4, ((0, 1), (1, 2), (2, 3)))
TWO_PATHS = (5, ((0, 1), (1, 2), (3, 4)))


def no_vertices(n):
    return odd_values() + odd_numbers(n) + [Board(EMPTY, ())]


def full_board(forest, lamps):
    """A board on which sixty edits stand, with this forest and these lamps at the end."""
    board = Board(forest, lamps)
    vertex = lamps[0]
    for _ in range(30):
        board.dim(vertex)
        board.light(vertex)
    return board


class BoardCase(unittest.TestCase):
    def check_error(self, kind, fields, function, *arguments):
        """The error is of exactly this class and has exactly these fields."""
        with self.assertRaises(kind) as caught:
            function(*arguments)
        self.assertIs(type(caught.exception), kind)
        found = tuple(vars(caught.exception).values())
        self.assertEqual(repr(found), repr(fields))
        return found

    def check_value_error(self, kind, value, board, name, *values):
        """The error has the very value that was passed, and the board stays as it is."""
        before = snapshot(board)
        (found,) = self.check_error(kind, (value,), getattr(board, name), *values)
        self.assertIs(found, value)
        self.assertEqual(snapshot(board), before)

    def check_edit(self, forest, lamps, edit):
        """A new board does what the words say of this edit."""
        board = Board(forest, lamps)
        before = snapshot(board)
        error = edit_error(forest, lamps, edit)
        if error is not None:
            self.assertEqual(repr(outcome(make, board, edit)), repr(error), (forest, lamps, edit))
            self.assertEqual(snapshot(board), before, (forest, lamps, edit))
            return
        self.assertEqual(repr(make(board, edit)), "1", (forest, lamps, edit))
        after = after_edit(forest, lamps, edit)
        self.assertEqual(repr((board.forest(), board.lamps())), repr(after), (forest, lamps, edit))
        self.assertEqual(repr(board.edits()), repr((edit,)))
        self.assertEqual((board.forest(version=0), board.lamps(version=0)), (forest, lamps))


class NewBoardTest(BoardCase):
    def test_every_setting(self):
        for forest in small_forests(4) + list(LARGER_FORESTS):
            for lamps in all_settings(forest)[::-5]:
                board = Board(forest, lamps)
                self.assertEqual(repr((board.forest(), board.lamps())), repr((forest, lamps)))
                self.assertEqual((board.edits(), len(board)), ((), 0))

    def test_bad_forest(self):
        forests = [other for forest in (PATH_4, TREES_12) for other in with_one_part_replaced(forest, odd_values())]
        for value in forests + odd_values() + [(3, ((0, 1), (0, 2), (1, 2))), (3, ((1, 2), (0, 1))), (13, ())]:
            error = forest_error(value)
            if error is not None:
                self.check_error(BadForest, (error,), Board, value, ())

    def test_bad_forest_names_the_first_error(self):
        self.check_error(BadForest, ((None, "tuple"),), Board, [2, ()], ())
        self.check_error(BadForest, ((None, "vertices"),), Board, (True, ()), ())
        self.check_error(BadForest, ((None, "vertices"),), Board, (13, []), ())
        self.check_error(BadForest, ((None, "edges"),), Board, (2, [(0, 1)]), ())
        self.check_error(BadForest, ((0, "edge"),), Board, (2, ((False, 1),)), ())
        self.check_error(BadForest, ((1, "order"),), Board, (3, ((1, 2), (0, 1))), ())
        self.check_error(BadForest, ((2, "cycle"),), Board, (3, ((0, 1), (0, 2), (1, 2))), ())

    def test_bad_forest_before_bad_setting(self):
        for value in odd_values() + [(0, 1), (1, 0), (5,)]:
            self.check_error(BadForest, ((None, "edges"),), Board, (2, None), value)

    def test_bad_setting(self):
        for forest in (EMPTY, PATH_3, BARE_12, STAR_12):
            for value in odd_values() + [(-1,), (12,), (1, 0), (0, 0), (True,), (0, True), [0]]:
                right = type(value) is tuple and all(type(item) is int and 0 <= item < forest[0] for item in value)
                if not right or list(value) != sorted(set(value)) or not is_free(forest, value):
                    self.check_error(BadSetting, (), Board, forest, value)

    def test_adjacent_lamps(self):
        self.check_error(BadSetting, (), Board, PATH_3, (0, 1))
        self.check_error(BadSetting, (), Board, PATH_12, (0, 3, 4))


class EveryEditTest(BoardCase):
    def test_small_forests(self):
        for forest in small_forests(3):
            values = [None, True, False, *range(-1, forest[0] + 2)]
            for lamps in all_settings(forest):
                for edit in edits_over(values):
                    self.check_edit(forest, lamps, edit)

    def test_four_vertices(self):
        for forest in small_forests(4)[::3]:
            for lamps in all_settings(forest):
                for edit in edits_over(range(forest[0])):
                    self.check_edit(forest, lamps, edit)

    def test_larger_forests(self):
        for forest in LARGER_FORESTS:
            settings = all_settings(forest)
            for lamps in settings[::len(settings) // 2 + 1] + settings[-1:]:
                for edit in edits_over([None, True, 0, 1, 5, forest[0] - 1, forest[0]]):
                    self.check_edit(forest, lamps, edit)

    def test_drawn_edits_one_after_another(self):
        for number in range(120):
            draw = Random(number)
            forest = draw.choice(SOME_FORESTS)
            lamps = draw.choice(all_settings(forest))
            board = Board(forest, lamps)
            states = [(forest, lamps)]
            edits = []
            for _ in range(draw.choice((5, 20, 60))):
                right = right_edits(*states[-1])
                edit = draw.choice(right)
                self.assertEqual(make(board, edit), len(states))
                edits.append(edit)
                states.append(after_edit(*states[-1], edit))
            self.assertEqual([(board.forest(version=k), board.lamps(version=k)) for k in range(len(states))], states)
            self.assertEqual(board.edits(), tuple(edits))
            self.assertEqual(len(board), len(edits))


class LightTest(BoardCase):
    def test_no_vertex(self):
        board = Board(PATH_3, (0,))
        for value in no_vertices(3):
            self.check_value_error(NoVertex, value, board, "light", value)

    def test_no_vertices(self):
        self.check_value_error(NoVertex, 0, Board(EMPTY, ()), "light", 0)

    def test_lit(self):
        self.check_value_error(Lit, 2, Board(PATH_3, (0, 2)), "light", 2)
        self.check_value_error(NoVertex, False, Board(PATH_3, (0, 2)), "light", False)

    def test_blocked_by_the_smallest(self):
        self.check_value_error(Blocked, 0, Board(PATH_3, (0, 2)), "light", 1)
        self.check_value_error(Blocked, 3, Board(STAR_12, (3, 7, 11)), "light", 0)
        self.check_value_error(Blocked, 0, Board(STAR_12, (0,)), "light", 11)

    def test_ascending_lamps(self):
        board = Board(BARE_12, ())
        for vertex in (10, 9, 11, 2, 0):
            board.light(vertex)
        self.assertEqual(board.lamps(), (0, 2, 9, 10, 11))


class DimTest(BoardCase):
    def test_no_lamp(self):
        board = Board(PATH_3, (0, 2))
        for value in no_vertices(3) + [1]:
            self.check_value_error(NoLamp, value, board, "dim", value)

    def test_bools(self):
        board = Board((2, ()), (0, 1))
        for value in (False, True, "0", (0,)):
            self.check_value_error(NoLamp, value, board, "dim", value)

    def test_dims_one_lamp(self):
        board = Board(BARE_12, tuple(range(12)))
        self.assertEqual([board.dim(0), board.dim(11), board.dim(5)], [1, 2, 3])
        self.assertEqual(board.lamps(), (1, 2, 3, 4, 6, 7, 8, 9, 10))
        self.check_value_error(NoLamp, 5, board, "dim", 5)


class SlideTest(BoardCase):
    def test_no_lamp(self):
        board = Board(PATH_4, (1,))
        for value in no_vertices(4) + [0, 2, 3]:
            self.check_value_error(NoLamp, value, board, "slide", value, 0)
            self.check_value_error(NoLamp, value, board, "slide", value, value)

    def test_not_adjacent(self):
        board = Board(PATH_4, (1,))
        for value in no_vertices(4) + [1, 3]:
            self.check_value_error(NotAdjacent, value, board, "slide", 1, value)

    def test_bools(self):
        board = Board(PATH_4, (1,))
        self.check_value_error(NoLamp, True, board, "slide", True, 2)
        self.check_value_error(NotAdjacent, False, board, "slide", 1, False)

    def test_blocked_by_the_smallest(self):
        self.check_value_error(Blocked, 2, Board(PATH_4, (0, 2)), "slide", 0, 1)
        self.check_value_error(Blocked, 1, Board(STAR_12, (1, 4, 9)), "slide", 4, 0)
        self.check_value_error(Blocked, 4, Board(STAR_12, (1, 4, 9)), "slide", 1, 0)

    def test_ascending_lamps(self):
        board = Board((12, ((0, 11), (1, 10))), (0, 1))
        self.assertEqual([board.slide(0, 11), board.lamps()], [1, (1, 11)])
        self.assertEqual([board.slide(1, 10), board.lamps()], [2, (10, 11)])


class GrowTest(BoardCase):
    def test_no_vertex(self):
        for forest in (EMPTY, PATH_3):
            board = Board(forest, ())
            for value in no_vertices(forest[0]):
                if value is not None:
                    self.check_value_error(NoVertex, value, board, "grow", value)

    def test_too_many_vertices_before_no_vertex(self):
        for forest in LARGE_FORESTS:
            board = Board(forest, ())
            before = snapshot(board)
            for value in no_vertices(12) + [0, 11]:
                self.check_error(TooManyVertices, (12,), board.grow, value)
            self.assertEqual(snapshot(board), before)

    def test_up_to_twelve(self):
        board = Board(EMPTY, ())
        self.assertEqual(board.grow(None), 1)
        for vertex in range(11):
            self.assertEqual(board.grow(vertex), vertex + 2)
        self.assertEqual(board.forest(), PATH_12)
        self.check_error(TooManyVertices, (12,), board.grow, 11)

    def test_the_new_vertex_is_dark(self):
        board = Board(PATH_3, (0, 2))
        self.assertEqual([board.grow(2), board.grow(None), board.lamps()], [1, 2, (0, 2)])
        self.assertEqual(board.forest(), (5, ((0, 1), (1, 2), (2, 3))))


class JoinTest(BoardCase):
    def test_no_vertex(self):
        board = Board(TWO_PATHS, (0, 3))
        for value in no_vertices(5):
            self.check_value_error(NoVertex, value, board, "join", value, 0)
            self.check_value_error(NoVertex, value, board, "join", 0, value)
            self.check_value_error(NoVertex, value, board, "join", value, "other")

    def test_cycle(self):
        board = Board(TWO_PATHS, (0, 2))
        before = snapshot(board)
        self.check_error(Cycle, ((2, 1, 0),), board.join, 2, 0)
        self.check_error(Cycle, ((3, 4),), board.join, 3, 4)
        self.check_error(Cycle, ((4,),), board.join, 4, 4)
        self.assertEqual(snapshot(board), before)

    def test_lamps_meet_behind_the_other_errors(self):
        board = Board(TWO_PATHS, (0, 2, 4))
        before = snapshot(board)
        self.check_error(Cycle, ((0, 1, 2),), board.join, 0, 2)
        self.check_error(Cycle, ((0,),), board.join, 0, 0)
        self.check_error(NoVertex, (5,), board.join, 0, 5)
        self.check_error(NoVertex, (True,), board.join, 0, True)
        self.check_error(LampsMeet, (), board.join, 0, 4)
        self.check_error(LampsMeet, (), board.join, 4, 2)
        self.assertEqual(snapshot(board), before)

    def test_one_lamp_or_none(self):
        for first, second in ((0, 3), (3, 0), (1, 4), (4, 1), (1, 3)):
            board = Board(TWO_PATHS, (0, 2, 4))
            self.assertEqual(board.join(first, second), 1)
            edges = tuple(sorted(TWO_PATHS[1] + ((min(first, second), max(first, second)),)))
            self.assertEqual((board.forest(), board.lamps()), ((5, edges), (0, 2, 4)))
            self.assertEqual(board.edits(), (("join", first, second),))


class CutTest(BoardCase):
    def test_no_vertex(self):
        board = Board(PATH_3, (0, 2))
        for value in no_vertices(3):
            self.check_value_error(NoVertex, value, board, "cut", value, 0)
            self.check_value_error(NoVertex, value, board, "cut", 0, value)
            self.check_value_error(NoVertex, value, board, "cut", value, "other")

    def test_not_adjacent(self):
        board = Board(PATH_3, (0, 2))
        for first, second in ((0, 2), (2, 0), (1, 1)):
            self.check_value_error(NotAdjacent, second, board, "cut", first, second)

    def test_both_orders(self):
        for first, second in ((1, 2), (2, 1)):
            board = Board(PATH_3, (0, 2))
            self.assertEqual([board.cut(first, second), board.forest(), board.lamps()], [1, (3, ((0, 1),)), (0, 2)])
            self.assertEqual(board.edits(), (("cut", first, second),))


class TooManyEditsTest(BoardCase):
    def test_before_every_other_error(self):
        for forest, lamps in ((PATH_4, (0, 2)), (TREES_12, (0, 4))):
            board = full_board(forest, lamps)
            before = snapshot(board)
            for name, many in VALUE_COUNTS.items():
                for value in no_vertices(forest[0]) + [0, 1, 2, 3]:
                    self.check_error(TooManyEdits, (), getattr(board, name), *[value] * many)
            self.assertEqual(snapshot(board), before)

    def test_right_edits_too(self):
        board = full_board(TWO_PATHS, (0, 2, 4))
        for edit in right_edits(TWO_PATHS, (0, 2, 4)):
            self.check_error(TooManyEdits, (), make, board, edit)
        self.check_error(TooManyEdits, (), board.join, 0, 4)

    def test_sixty_edits_and_no_more(self):
        board = Board(BARE_12, ())
        for number in range(60):
            self.assertEqual(board.light(0) if number % 2 == 0 else board.dim(0), number + 1)
        self.check_error(TooManyEdits, (), board.light, 0)
        self.assertEqual([board.undo(), board.light(3)], [59, 60])
        self.check_error(TooManyEdits, (), board.dim, 3)
        self.assertEqual(board.lamps(), (0, 3))

    def test_each_edit_as_the_sixtieth(self):
        for edit in right_edits(TWO_PATHS, (2, 4)):
            board = full_board(TWO_PATHS, (0, 2, 4))
            # The lamp 0 is dark now.
            board.undo()
            self.assertEqual([make(board, edit), len(board)], [60, 60])
            self.check_error(TooManyEdits, (), make, board, edit)
