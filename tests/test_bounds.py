import unittest

from treelamps import bounds


class BoundsTest(unittest.TestCase):
    def test_values(self):
        self.assertEqual((bounds.MAX_VERTICES, bounds.MAX_EDITS, bounds.BATCH), (12, 60, 20))

    def test_kinds(self):
        for name in ("MAX_VERTICES", "MAX_EDITS", "BATCH"):
            self.assertIs(type(getattr(bounds, name)), int)
