"""is_lock and greatest_lock ([6])."""

import unittest
from itertools import permutations

from tests.samples import (
    BARE_12, HUBS_11, HUBS_11_RENAMED, LARGER_FORESTS, PATH_12, STAR_12, all_settings, all_subsets, greatest_by_words,
    is_lock_by_words, locks_of, odd_numbers, odd_values, small_forests, subsets_of,
)
from treelamps.locks import greatest_lock, is_lock

PATH_3 = (3, ((0, 1), (1, 2)))
PATH_5 = (5, ((0, 1), (1, 2), (2, 3), (3, 4)))


def sampled_settings(forest, most):
    """About as many settings of the forest as most, from all sizes, the last one among them."""
    settings = all_settings(forest)[::-1]
    return settings[::max(1, len(settings) // most)]


class IsLockTest(unittest.TestCase):
    def check(self, forest, setting, value, expected):
        self.assertIs(is_lock(forest, setting, value), expected, (forest, setting, value))

    def check_subsets(self, forest, setting):
        for chosen in subsets_of(setting):
            self.check(forest, setting, chosen, is_lock_by_words(forest, setting, chosen))

    def test_every_subset_of_the_lamps(self):
        for forest in small_forests(5):
            for setting in all_settings(forest):
                self.check_subsets(forest, setting)

    def test_every_subset_of_the_lamps_of_larger_forests(self):
        for forest in LARGER_FORESTS:
            for setting in sampled_settings(forest, 25):
                self.check_subsets(forest, setting)

    def test_dark_vertices(self):
        for forest in small_forests(4):
            for setting in all_settings(forest):
                for chosen in all_subsets(forest[0]):
                    self.check(forest, setting, chosen, is_lock_by_words(forest, setting, chosen))
        self.check(PATH_3, (), (0, 2), False)
        self.check(PATH_3, (0,), (0, 2), False)
        self.check(BARE_12, (0, 1), (0, 2), False)

    def test_empty(self):
        for forest in LARGER_FORESTS + ((0, ()), (1, ())):
            self.check(forest, (), (), True)
            self.check(forest, sampled_settings(forest, 1)[0], (), True)

    def test_vertices_without_neighbours(self):
        for chosen in all_subsets(12)[::9]:
            self.check(BARE_12, tuple(range(12)), chosen, True)
        self.check((1, ()), (0,), (0,), True)

    def test_known_locks(self):
        self.check(PATH_3, (0, 2), (0, 2), True)
        self.check(PATH_3, (0, 2), (2,), False)
        self.check(PATH_5, (0, 2, 4), (0, 2, 4), True)
        self.check(PATH_5, (0, 2, 4), (0, 2), False)
        self.check(PATH_5, (0, 2, 4), (0, 4), False)
        self.check(STAR_12, (1, 5, 11), (1, 11), True)
        self.check(STAR_12, (0,), (0,), False)
        self.check(PATH_12, (0, 2, 4, 6, 8, 10), (0, 2, 4, 6, 8, 10), False)

    def test_vertices_outside_the_setting_count(self):
        self.check((6, ((0, 1), (1, 2), (2, 3), (3, 4), (4, 5))), (0, 2, 4), (0, 2, 4), False)
        self.check((6, ((0, 1), (1, 2), (2, 3), (3, 4))), (0, 2, 4), (0, 2, 4), True)

    def test_not_ascending(self):
        for items in permutations((1, 4, 7)):
            self.check(STAR_12, (1, 4, 7), items, items == (1, 4, 7))
        for items in [(0, 0), (0, 0, 2), (0, 2, 2), (2, 0)]:
            self.check(PATH_3, (0, 2), items, False)

    def test_bools(self):
        for items in [(False, 2), (False,), (True,), (False, True)]:
            self.check(PATH_3, (0, 2), items, False)
            self.check((3, ()), (0, 1, 2), items, False)
        self.check((3, ()), (0, 1, 2), (0, True), False)
        self.check(STAR_12, (1, 2), (True, 2), False)

    def test_lists(self):
        for forest in small_forests(4):
            for setting in all_settings(forest):
                for lock in locks_of(forest, setting):
                    for value in (list(lock), (lock,), [lock], (list(lock),), {"lock": lock}):
                        self.check(forest, setting, value, False)

    def test_other_values(self):
        everything = tuple(range(12))
        for value in odd_values() + odd_numbers(12) + [0, 1, 11]:
            self.check(BARE_12, everything, value, is_lock_by_words(BARE_12, everything, value))
            self.check(STAR_12, (1, 2), value, type(value) is tuple and value == ())
            for items in [(value,), (0, value), (value, 11)]:
                self.check(BARE_12, everything, items, is_lock_by_words(BARE_12, everything, items))

    def test_numbers_beyond_the_forest(self):
        for number in odd_numbers(12):
            self.check(BARE_12, tuple(range(12)), (number,), False)
            self.check(BARE_12, tuple(range(12)), (0, number), False)


class GreatestLockTest(unittest.TestCase):
    def check(self, forest, setting):
        lock = greatest_lock(forest, setting)
        self.assertIs(type(lock), tuple)
        self.assertIs(is_lock(forest, setting, lock), True, (forest, setting))
        locks = locks_of(forest, setting)
        self.assertIn(lock, locks)
        for other in locks:
            self.assertLessEqual(set(other), set(lock), (forest, setting))
        self.assertEqual(greatest_by_words(forest, setting), lock)

    def test_every_setting(self):
        for forest in small_forests(5):
            for setting in all_settings(forest):
                self.check(forest, setting)

    def test_settings_of_larger_forests(self):
        for forest in LARGER_FORESTS:
            for setting in sampled_settings(forest, 60):
                self.check(forest, setting)

    def test_all_settings_of_larger_forests(self):
        for forest in LARGER_FORESTS:
            for setting in all_settings(forest):
                self.assertEqual(greatest_lock(forest, setting), greatest_by_words(forest, setting))

    def test_of_a_greatest_lock(self):
        for forest in (HUBS_11, HUBS_11_RENAMED, STAR_12):
            for setting in sampled_settings(forest, 100):
                lock = greatest_lock(forest, setting)
                self.assertEqual(greatest_lock(forest, lock), lock)

    def test_known_ones(self):
        self.assertEqual(greatest_lock((0, ()), ()), ())
        self.assertEqual(greatest_lock((1, ()), (0,)), (0,))
        self.assertEqual(greatest_lock((2, ((0, 1),)), (0,)), ())
        self.assertEqual(greatest_lock(STAR_12, (4,)), ())
        self.assertEqual(greatest_lock(STAR_12, (4, 9)), (4, 9))
        self.assertEqual(greatest_lock(BARE_12, (0, 5, 11)), (0, 5, 11))
        self.assertEqual(greatest_lock(PATH_5, (0, 2, 4)), (0, 2, 4))
        self.assertEqual(greatest_lock(PATH_12, (0, 2, 4, 6, 8, 10)), ())
        self.assertEqual(greatest_lock(HUBS_11, (1, 2, 4, 9, 10)), (1, 2, 9, 10))
        self.assertEqual(greatest_lock(HUBS_11, (1, 2, 5, 9)), (1, 2))

    def test_several_rounds(self):
        # The last lamp is free, and each lamp that goes frees the one before it.
        path = (10, tuple((v, v + 1) for v in range(9)))
        self.assertEqual(greatest_lock(path, (0, 2, 4, 6, 8)), ())
        self.assertEqual(greatest_lock((9, path[1][:8]), (0, 2, 4, 6, 8)), (0, 2, 4, 6, 8))
