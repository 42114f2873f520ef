"""The interface of DOC.md: its names, and how many arguments each function takes by position."""

import inspect
import unittest
from importlib import import_module

FUNCTIONS = {
    "forests": {"is_forest": 1, "forest_error": 1, "is_setting": 2, "neighbours_of": 2, "path_between": 3,
                "parts_of": 2},
    "slides": {"slide_lamp": 4, "possible_slides": 2, "follow": 3, "backward": 1},
    "locks": {"is_lock": 3, "greatest_lock": 2, "lamp_certificate": 3, "lamp_holds": 4},
    "pieces": {"pieces_of": 2, "piece_counts": 3},
    "reach": {"is_reachable": 3, "find_plan": 3, "find_certificate": 3, "certificate_holds": 4, "normal_setting": 2},
    "growth": {"attach_vertex": 2, "add_edge": 3, "remove_edge": 3, "rename_vertices": 2, "side_by_side": 2},
}


class InterfaceTest(unittest.TestCase):
    def test_functions_and_their_arguments(self):
        for module, functions in FUNCTIONS.items():
            for name, many in functions.items():
                function = getattr(import_module("treelamps." + module), name)
                parameters = inspect.signature(function).parameters.values()
                kinds = {(parameter.kind, parameter.default) for parameter in parameters}
                self.assertEqual(len(parameters), many, name)
                self.assertEqual(kinds, {(inspect.Parameter.POSITIONAL_OR_KEYWORD, inspect.Parameter.empty)}, name)

    def test_functions_stand_where_they_are_listed(self):
        for module, functions in FUNCTIONS.items():
            for name in functions:
                self.assertEqual(getattr(import_module("treelamps." + module), name).__module__, "treelamps." + module)
