"""pieces_of and piece_counts ([7])."""

import unittest

from tests.samples import (
    BARE_12, HUBS_11, LARGER_FORESTS, PATH_12, STAR_12, TREES_12, all_settings, count_in, greatest_by_words, locks_of,
    pieces_by_words, small_forests, steps_from, walk,
)
from treelamps.locks import greatest_lock
from treelamps.pieces import piece_counts, pieces_of

KITE_7 = (7, ((0, 1), (1, 2), (1, 3), (1, 5), (3, 4), (5, 6)))


class PiecesTest(unittest.TestCase):
    def check(self, forest, lock):
        pieces = pieces_of(forest, lock)
        self.assertEqual(pieces, pieces_by_words(forest, lock), (forest, lock))
        self.assertIs(type(pieces), tuple)
        for piece in pieces:
            self.assertIs(type(piece), tuple)

    def test_no_lock(self):
        for forest in small_forests(5) + list(LARGER_FORESTS):
            parts = {tuple(sorted(walk(forest[1], vertex))) for vertex in range(forest[0])}
            self.assertEqual(pieces_of(forest, ()), tuple(sorted(parts)))

    def test_every_lock(self):
        for forest in small_forests(5):
            for lock in {lock for setting in all_settings(forest) for lock in locks_of(forest, setting)}:
                self.check(forest, lock)

    def test_locks_of_larger_forests(self):
        for forest in LARGER_FORESTS:
            for setting in all_settings(forest)[::-101]:
                for lock in locks_of(forest, setting)[::-7]:
                    self.check(forest, lock)

    def test_greatest_locks(self):
        for forest in LARGER_FORESTS:
            for setting in all_settings(forest)[::-11]:
                self.check(forest, greatest_lock(forest, setting))

    def test_known_ones(self):
        self.assertEqual(pieces_of((0, ()), ()), ())
        self.assertEqual(pieces_of((1, ()), ()), ((0,),))
        self.assertEqual(pieces_of((1, ()), (0,)), ())
        self.assertEqual(pieces_of(PATH_12, ()), (tuple(range(12)),))
        self.assertEqual(pieces_of(STAR_12, (2, 9)), ((1,), (3,), (4,), (5,), (6,), (7,), (8,), (10,), (11,)))
        self.assertEqual(pieces_of(BARE_12, tuple(range(1, 11))), ((0,), (11,)))
        self.assertEqual(pieces_of(TREES_12, (2, 9)), ((0, 4, 5, 7, 8), (3, 11), (6, 10)))
        self.assertEqual(pieces_of(HUBS_11, (1, 2, 9, 10)), ((3, 4, 5, 6, 7),))
        self.assertEqual(pieces_of(HUBS_11, (1, 2)), ((3, 4, 5, 6, 7, 8, 9, 10),))


class PieceCountsTest(unittest.TestCase):
    def check(self, forest, setting, lock):
        counts = piece_counts(forest, setting, lock)
        expected = tuple(count_in(setting, piece) for piece in pieces_by_words(forest, lock))
        self.assertEqual(counts, expected, (forest, setting, lock))
        self.assertEqual(sum(counts) + len(lock), len(setting))
        for _, other in steps_from(forest, setting):
            self.assertEqual(piece_counts(forest, other, lock), counts)

    def test_before_and_after_slides(self):
        for forest in small_forests(5):
            for setting in all_settings(forest):
                for lock in locks_of(forest, setting):
                    self.check(forest, setting, lock)

    def test_before_and_after_slides_in_larger_forests(self):
        for forest in LARGER_FORESTS:
            for setting in all_settings(forest)[::-53]:
                self.check(forest, setting, greatest_by_words(forest, setting))
                self.check(forest, setting, ())

    def test_known_ones(self):
        self.assertEqual(piece_counts((0, ()), (), ()), ())
        self.assertEqual(piece_counts((1, ()), (0,), ()), (1,))
        self.assertEqual(piece_counts((1, ()), (0,), (0,)), ())
        self.assertEqual(piece_counts(PATH_12, (0, 5, 9), ()), (3,))
        self.assertEqual(piece_counts(KITE_7, (0, 2, 3, 6), (0, 2)), (1, 1))
        self.assertEqual(piece_counts(KITE_7, (0, 2, 6), (0, 2)), (0, 1))
        self.assertEqual(piece_counts(TREES_12, (0, 2, 4, 9, 10), (2, 9)), (2, 0, 1))
        self.assertEqual(piece_counts(TREES_12, (0, 2, 4, 9, 10), ()), (2, 2, 0, 1))
