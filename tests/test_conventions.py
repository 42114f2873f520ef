"""Point [3]: no argument is changed, equal calls return equal results, results are of the described kinds."""

import unittest
from copy import deepcopy

from tests.samples import LARGE_FORESTS, TREES_12, odd_values
from treelamps.errors import LampError
from treelamps.forests import forest_error, is_forest, is_setting, neighbours_of, parts_of, path_between
from treelamps.slides import backward, follow, possible_slides, slide_lamp

PATH_4 = (4, ((0, 1), (1, 2), (2, 3)))


def outcome(function, arguments):
    """The result, or the error's class and fields."""
    try:
        return function(*arguments)
    except LampError as error:
        return (type(error), vars(error))


def any_value_calls():
    """Calls with a value of each kind, also with mutable values deep inside."""
    calls = []
    for value in odd_values() + [-1, 0, 1, 2, 3, 4, 5]:
        calls.extend([
            (forest_error, (value,)), (is_forest, (value,)),
            (forest_error, ((value, value),)), (forest_error, ((4, value),)), (forest_error, ((4, (value,)),)),
            (forest_error, ((4, ((0, 1), (value, 3))),)), (forest_error, ((4, ((0, 1), (2, value))),)),
            (is_setting, (PATH_4, value)), (is_setting, (PATH_4, (0, value))),
            (slide_lamp, (PATH_4, (0, 2), value, 3)), (slide_lamp, (PATH_4, (0, 2), 2, value)),
            (follow, (PATH_4, (0, 2), value)), (follow, (PATH_4, (0, 2), ((2, 3), value))),
            (follow, (PATH_4, (0, 2), ((2, 3), (value, 1)))), (follow, (PATH_4, (0, 2), ((2, 3), (0, value)))),
        ])
    return calls


def ordinary_calls():
    calls = [(backward, (((2, 3), (0, 1)),)), (follow, (PATH_4, (0, 2), ((2, 3), (0, 1))))]
    for forest in LARGE_FORESTS:
        calls.extend([
            (forest_error, (forest,)), (is_forest, (forest,)), (is_setting, (forest, (0, 2))),
            (neighbours_of, (forest, 5)), (path_between, (forest, 0, 11)), (parts_of, (forest, (0, 4, 5, 11))),
            (possible_slides, (forest, (2, 4))), (slide_lamp, (forest, (4,), 4, 5)),
        ])
    return calls


class ConventionsTest(unittest.TestCase):
    def test_arguments_do_not_change(self):
        for function, arguments in any_value_calls() + ordinary_calls():
            before = deepcopy(arguments)
            outcome(function, arguments)
            self.assertEqual(repr(arguments), repr(before), function)

    def test_equal_calls_return_equal_results(self):
        for function, arguments in any_value_calls() + ordinary_calls():
            first = outcome(function, arguments)
            self.assertEqual(outcome(function, deepcopy(arguments)), first, function)
            self.assertEqual(outcome(function, arguments), first, function)

    def test_later_changes_do_not_affect_a_result(self):
        edges = [(0, 1), [1, 2]]
        error = forest_error((3, edges))
        edges.clear()
        self.assertEqual(error, (None, "edges"))

    def test_results_are_bools_tuples_and_none(self):
        for function, arguments in ordinary_calls():
            kinds = (bool,) if function in (is_forest, is_setting) else (tuple, type(None))
            result = outcome(function, arguments)
            self.assertIn(type(result), kinds, function)

    def test_numbers_in_results_are_no_bools(self):
        for vertex in range(12):
            for other in neighbours_of(TREES_12, vertex):
                self.assertIs(type(other), int)

    def test_bools_are_no_numbers_at_any_depth(self):
        self.assertEqual(forest_error((True, ())), (None, "vertices"))
        self.assertEqual(forest_error((False, ())), (None, "vertices"))
        self.assertEqual(forest_error((2, ((False, 1),))), (0, "edge"))
        self.assertEqual(forest_error((2, ((0, True),))), (0, "edge"))
        self.assertIs(is_setting((2, ()), (False, 1)), False)
        self.assertIs(is_setting((2, ()), (0, True)), False)
