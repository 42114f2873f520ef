import unittest
from itertools import permutations

from tests.samples import odd_values
from treelamps import errors

FIELDS = {
    "NoLamp": ("value",), "NotAdjacent": ("value",), "Blocked": ("vertex",), "BadSlides": ("index",),
    "TooManyVertices": ("bound",), "NoVertex": ("value",), "Cycle": ("path",), "BadForest": ("error",),
    "BadSetting": (), "Lit": ("value",), "LampsMeet": (), "TooManyEdits": (), "NothingToUndo": (),
    "BadEdits": (), "BadEdit": ("index",), "Rejected": ("index",), "Busy": (), "BadText": ("index",),
    "NoVersion": ("value",),
}


def error_class(name):
    return getattr(errors, name)


class ErrorsTest(unittest.TestCase):
    def test_fields_are_exactly_what_was_passed(self):
        for name, fields in FIELDS.items():
            for value in odd_values() + [0, 7, -1]:
                error = error_class(name)(*[value for field in fields])
                for field in fields:
                    self.assertIs(getattr(error, field), value, name)

    def test_fields_are_set_when_created_and_nothing_else_is(self):
        for name, fields in FIELDS.items():
            self.assertEqual(tuple(vars(error_class(name)(*range(len(fields))))), fields, name)

    def test_number_of_fields(self):
        for name, fields in FIELDS.items():
            if fields:
                self.assertRaises(TypeError, error_class(name))
                self.assertRaises(TypeError, error_class(name), 1, 2)
                self.assertIn("__init__", vars(error_class(name)), name)

    def test_base(self):
        self.assertEqual(errors.LampError.__bases__, (ValueError,))
        for name in FIELDS:
            expected = LookupError if name == "NoVersion" else errors.LampError
            self.assertTrue(issubclass(error_class(name), expected), name)

    def test_no_version_is_no_value_error(self):
        self.assertFalse(issubclass(errors.NoVersion, ValueError))
        self.assertFalse(issubclass(errors.NoVersion, errors.LampError))

    def test_lamp_errors_are_no_lookup_errors(self):
        for name in FIELDS:
            if name != "NoVersion":
                self.assertFalse(issubclass(error_class(name), LookupError), name)

    def test_none_is_another_one(self):
        for one, other in permutations(FIELDS, 2):
            self.assertFalse(issubclass(error_class(one), error_class(other)), (one, other))

    def test_names(self):
        for name in FIELDS:
            self.assertEqual(error_class(name).__name__, name)

    def test_can_be_raised_and_caught(self):
        for name, fields in FIELDS.items():
            with self.assertRaises(error_class(name)):
                raise error_class(name)(*range(len(fields)))
