"""Point [3]: no argument is changed, equal calls return equal results, results are of the described kinds."""

import unittest
from copy import deepcopy

from tests.models import VALUE_COUNTS, snapshot
from tests.samples import LARGE_FORESTS, TREES_12, odd_values
from treelamps.boards import Board
from treelamps.classes import class_of, classes_of, settings_of, shortest_plan, steps_between
from treelamps.errors import LampError, NoVersion
from treelamps.forests import forest_error, is_forest, is_setting, neighbours_of, parts_of, path_between
from treelamps.growth import add_edge, attach_vertex, remove_edge, rename_vertices, side_by_side
from treelamps.locks import greatest_lock, is_lock, lamp_certificate, lamp_holds
from treelamps.pieces import piece_counts, pieces_of
from treelamps.reach import certificate_holds, find_certificate, find_plan, is_reachable, normal_setting
from treelamps.shells import Shell
from treelamps.slides import backward, follow, possible_slides, slide_lamp
from treelamps.texts import forest_text, parse_forest, parse_slides, slides_text

PATH_3 = (3, ((0, 1), (1, 2)))
PATH_4 = (4, ((0, 1), (1, 2), (2, 3)))
NAMES_12 = (7, 2, 11, 0, 9, 4, 1, 10, 3, 8, 5, 6)
YES_OR_NO = (is_forest, is_setting, is_lock, lamp_holds, is_reachable, certificate_holds)
KINDS = {steps_between: (int, type(None)), forest_text: (str,), slides_text: (str,)}


def outcome(function, arguments):
    """The result, or the error's class and fields."""
    try:
        return function(*arguments)
    except (LampError, NoVersion) as error:
        return (type(error), vars(error))


def on_board(name, *values):
    """What a method of a board returns, and the board afterwards."""
    board = Board(PATH_4, (0, 2))
    board.slide(2, 3)
    result = getattr(board, name)(*values)
    return (result, snapshot(board))


def at_version(name, value):
    board = Board(PATH_4, (0, 2))
    board.slide(2, 3)
    return getattr(board, name)(version=value)


def in_shell(value):
    return Shell(Board(PATH_4, (0, 2))).execute(value)


def board_calls(value):
    """Calls of boards, texts and shells with a value in each place where any value may stand."""
    calls = [
        (Board, (value, ())), (Board, ((3, value), ())), (Board, (PATH_3, value)), (Board, (value, value)),
        (Board, (PATH_3, (0, value))), (on_board, ("reaches", value)), (on_board, ("reaches", (0, value))),
        (on_board, ("attempt", value)), (on_board, ("attempt", [value])), (on_board, ("attempt", (("dim", 0), value))),
        (on_board, ("attempt", [(value, 0)])), (on_board, ("attempt", [["dim", value]])),
        (parse_forest, (value,)), (parse_slides, (value,)), (in_shell, (value,)),
    ]
    calls.extend([(at_version, (name, value)) for name in ("forest", "lamps", "rigid", "normal")])
    for name, many in VALUE_COUNTS.items():
        calls.append((on_board, (name, *[value] * many)))
        calls.append((on_board, (name, *[0, value][-many:])))
        calls.append((on_board, (name, *[value, 0][:many])))
        calls.append((on_board, ("attempt", [("dim", 0), (name, *[value] * many)])))
    return calls


def any_value_calls():
    """Calls with a value of each kind, also with mutable values deep inside."""
    calls = []
    for value in odd_values() + [-1, 0, 1, 2, 3, 4, 5]:
        calls.extend([
            (forest_error, (value,)), (is_forest, (value,)),
            (forest_error, ((value, value),)), (forest_error, ((4, value),)), (forest_error, ((4, (value,)),)),
            (forest_error, ((4, ((0, 1), (value, 3))),)), (forest_error, ((4, ((0, 1), (2, value))),)),
            (is_setting, (PATH_4, value)), (is_setting, (PATH_4, (0, value))),
            (slide_lamp, (PATH_4, (0, 2), value, 3)), (slide_lamp, (PATH_4, (0, 2), 2, value)),
            (follow, (PATH_4, (0, 2), value)), (follow, (PATH_4, (0, 2), ((2, 3), value))),
            (follow, (PATH_4, (0, 2), ((2, 3), (value, 1)))), (follow, (PATH_4, (0, 2), ((2, 3), (0, value)))),
            (is_lock, (PATH_3, (0, 2), value)), (is_lock, (PATH_3, (0, 2), (0, value))),
            (lamp_certificate, (PATH_4, (0, 2), value)), (lamp_holds, (PATH_3, (0, 2), 0, value)),
            (lamp_holds, (PATH_3, (0, 2), 0, ("rigid", value))), (lamp_holds, (PATH_4, (0, 2), 0, ("moves", value))),
            (lamp_holds, (PATH_4, (0, 2), 0, ("moves", (value,)))), (lamp_holds, (PATH_3, (0, 2), 0, (value, (0, 2)))),
            (certificate_holds, (PATH_4, (0, 2), (1, 3), value)),
            (certificate_holds, (PATH_4, (0, 2), (1, 3), ("plan", value))),
            (certificate_holds, (PATH_4, (0, 2), (1, 3), ("plan", ((2, 3), value)))),
            (certificate_holds, (PATH_3, (0, 2), (0,), ("lock", value, (0, 2)))),
            (certificate_holds, (PATH_3, (0, 2), (0,), ("lock", 0, value))),
            (certificate_holds, (PATH_4, (0,), (0, 2), ("count", value, (0, 1, 2, 3)))),
            (certificate_holds, (PATH_4, (0,), (0, 2), ("count", (), value))),
            (attach_vertex, (PATH_4, value)), (add_edge, (PATH_4, value, 0)), (add_edge, (PATH_4, 0, value)),
            (remove_edge, (PATH_4, value, 0)), (remove_edge, (PATH_4, 0, value)),
        ])
        calls.extend(board_calls(value))
    return calls


def ordinary_calls():
    calls = [(backward, (((2, 3), (0, 1)),)), (follow, (PATH_4, (0, 2), ((2, 3), (0, 1)))),
             (slides_text, (((2, 3), (0, 1)),)), (parse_slides, ("2>3 0>1",)), (parse_forest, ("3: 0-1 1-2",))]
    for forest in LARGE_FORESTS:
        calls.extend([
            (forest_error, (forest,)), (is_forest, (forest,)), (is_setting, (forest, (0, 2))),
            (neighbours_of, (forest, 5)), (path_between, (forest, 0, 11)), (parts_of, (forest, (0, 4, 5, 11))),
            (possible_slides, (forest, (2, 4))), (slide_lamp, (forest, (4,), 4, 5)),
            (is_lock, (forest, (1, 3), (1, 3))), (greatest_lock, (forest, (1, 3, 6))),
            (lamp_certificate, (forest, (1, 3, 6), 3)), (lamp_holds, (forest, (1, 3), 3, ("rigid", (1, 3)))),
            (pieces_of, (forest, ())), (piece_counts, (forest, (1, 3, 6), ())),
            (normal_setting, (forest, (1, 3, 6))), (attach_vertex, (forest, 0)), (add_edge, (forest, 3, 6)),
            (remove_edge, (forest, 0, 1)), (rename_vertices, (forest, NAMES_12)), (side_by_side, (forest, (0, ()))),
            (class_of, (forest, (1, 3))), (settings_of, (forest, 2)), (classes_of, (forest, 2)),
            (settings_of, (forest, 99)), (forest_text, (forest,)), (parse_forest, (forest_text(forest),)),
        ])
        for first, second in (((1, 3), (1, 3)), ((1, 3), (2, 4)), ((1, 3), (1,)), ((3,), (4,)), ((4,), (5,))):
            calls.extend([
                (is_reachable, (forest, first, second)), (find_plan, (forest, first, second)),
                (find_certificate, (forest, first, second)),
                (certificate_holds, (forest, first, second, ("lock", 0, first))),
                (steps_between, (forest, first, second)), (shortest_plan, (forest, first, second)),
            ])
    return calls


class ConventionsTest(unittest.TestCase):
    def test_arguments_do_not_change(self):
        for function, arguments in any_value_calls() + ordinary_calls():
            before = deepcopy(arguments)
            outcome(function, arguments)
            self.assertEqual(repr(arguments), repr(before), function)

    def test_equal_calls_return_equal_results(self):
        for function, arguments in any_value_calls() + ordinary_calls():
            first = outcome(function, arguments)
            self.assertEqual(outcome(function, deepcopy(arguments)), first, function)
            self.assertEqual(outcome(function, arguments), first, function)

    def test_later_changes_do_not_affect_a_result(self):
        edges = [(0, 1), [1, 2]]
        error = forest_error((3, edges))
        edges.clear()
        self.assertEqual(error, (None, "edges"))

    def test_later_changes_do_not_affect_a_board(self):
        edits = [("dim", 0), ("light", 3)]
        board = Board(PATH_4, (0,))
        board.attempt(edits)
        before = snapshot(board)
        edits.append(("dim", 3))
        edits[0] = None
        self.assertEqual(snapshot(board), before)
        self.assertEqual(board.edits(), (("dim", 0), ("light", 3)))

    def test_results_are_of_the_described_kinds(self):
        for function, arguments in ordinary_calls():
            kinds = (bool,) if function in YES_OR_NO else KINDS.get(function, (tuple, type(None)))
            result = outcome(function, arguments)
            self.assertIn(type(result), kinds, function)

    def test_numbers_in_results_are_no_bools(self):
        for vertex in range(12):
            for other in neighbours_of(TREES_12, vertex):
                self.assertIs(type(other), int)

    def test_bools_are_no_numbers_at_any_depth(self):
        self.assertEqual(forest_error((True, ())), (None, "vertices"))
        self.assertEqual(forest_error((False, ())), (None, "vertices"))
        self.assertEqual(forest_error((2, ((False, 1),))), (0, "edge"))
        self.assertEqual(forest_error((2, ((0, True),))), (0, "edge"))
        self.assertIs(is_setting((2, ()), (False, 1)), False)
        self.assertIs(is_setting((2, ()), (0, True)), False)
        self.assertIs(is_lock((2, ()), (0, 1), (0, True)), False)
        self.assertIs(lamp_holds((2, ()), (0, 1), 1, ("rigid", (0, True))), False)
        self.assertIs(certificate_holds(PATH_3, (0, 2), (), ("lock", False, (0, 2))), False)
        self.assertIs(certificate_holds(PATH_3, (), (0, 2), ("lock", True, (0, 2))), False)
        board = Board(PATH_3, (1,))
        for name, values in (
            ("light", (True,)), ("dim", (True,)), ("slide", (True, 0)), ("slide", (1, False)), ("grow", (True,)),
            ("join", (True, 0)), ("join", (0, True)), ("cut", (True, 0)), ("cut", (1, False)), ("reaches", ((True,),)),
            ("attempt", ([("dim", True)],)),
        ):
            self.assertRaises(LampError, getattr(board, name), *values)
        self.assertEqual(board.edits(), ())
