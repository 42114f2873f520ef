"""The interface of DOC.md: its names, and the arguments of each function and method."""

import inspect
import unittest
from importlib import import_module

from treelamps.boards import Board
from treelamps.shells import Shell

FUNCTIONS = {
    "forests": {"is_forest": 1, "forest_error": 1, "is_setting": 2, "neighbours_of": 2, "path_between": 3,
                "parts_of": 2},
    "slides": {"slide_lamp": 4, "possible_slides": 2, "follow": 3, "backward": 1},
    "locks": {"is_lock": 3, "greatest_lock": 2, "lamp_certificate": 3, "lamp_holds": 4},
    "pieces": {"pieces_of": 2, "piece_counts": 3},
    "reach": {"is_reachable": 3, "find_plan": 3, "find_certificate": 3, "certificate_holds": 4, "normal_setting": 2},
    "classes": {"class_of": 2, "settings_of": 2, "classes_of": 2, "steps_between": 3, "shortest_plan": 3},
    "growth": {"attach_vertex": 2, "add_edge": 3, "remove_edge": 3, "rename_vertices": 2, "side_by_side": 2},
    "texts": {"forest_text": 1, "slides_text": 1, "parse_forest": 1, "parse_slides": 1},
}
METHODS = {
    Board: {"__init__": 2, "light": 1, "dim": 1, "slide": 2, "grow": 1, "join": 2, "cut": 2, "undo": 0, "attempt": 1,
            "forest": 0, "lamps": 0, "rigid": 0, "normal": 0, "reaches": 1, "edits": 0, "__len__": 0, "__str__": 0,
            "__eq__": 1},
    Shell: {"__init__": 1, "execute": 1},
}
BY_KEYWORD = {"attempt": ["goal"], "forest": ["version"], "lamps": ["version"], "rigid": ["version"],
              "normal": ["version"]}
BY_POSITION = {(inspect.Parameter.POSITIONAL_OR_KEYWORD, inspect.Parameter.empty)}


def kinds_of(parameters):
    return {(parameter.kind, parameter.default) for parameter in parameters}


class InterfaceTest(unittest.TestCase):
    def test_functions_and_their_arguments(self):
        for module, functions in FUNCTIONS.items():
            for name, many in functions.items():
                function = getattr(import_module("treelamps." + module), name)
                parameters = inspect.signature(function).parameters.values()
                self.assertEqual(len(parameters), many, name)
                self.assertEqual(kinds_of(parameters), BY_POSITION, name)

    def test_functions_stand_where_they_are_listed(self):
        for module, functions in FUNCTIONS.items():
            for name in functions:
                self.assertEqual(getattr(import_module("treelamps." + module), name).__module__, "treelamps." + module)

    def test_methods_stand_in_their_class(self):
        self.assertEqual((Board.__module__, Shell.__module__), ("treelamps.boards", "treelamps.shells"))
        for kind, methods in METHODS.items():
            for name in methods:
                self.assertTrue(inspect.isfunction(vars(kind).get(name)), (kind, name))

    def test_methods_and_their_arguments(self):
        for kind, methods in METHODS.items():
            for name, many in methods.items():
                own, *parameters = inspect.signature(vars(kind)[name]).parameters.values()
                named = [parameter for parameter in parameters if parameter.kind == inspect.Parameter.KEYWORD_ONLY]
                self.assertEqual([parameter.name for parameter in named], BY_KEYWORD.get(name, []), name)
                self.assertEqual([parameter.default for parameter in named], [None] * len(named), name)
                others = parameters[:many]
                self.assertEqual(parameters, others + named, name)
                self.assertEqual(len(others), many, name)
                self.assertLessEqual(kinds_of(others), BY_POSITION, name)
