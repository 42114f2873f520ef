"""is_setting ([4])."""

import unittest
from itertools import product

from tests.samples import (
    BARE_12, LARGE_FORESTS, PATH_12, STAR_12, all_forests, all_settings, all_subsets, is_free, odd_numbers,
    odd_values, small_forests,
)
from treelamps.forests import is_setting


class SettingTest(unittest.TestCase):
    def check(self, forest, value, expected):
        self.assertIs(is_setting(forest, value), expected, (forest, value))

    def test_every_subset(self):
        for forest in small_forests(5) + list(LARGE_FORESTS):
            for chosen in all_subsets(forest[0]):
                self.check(forest, chosen, is_free(forest, chosen))

    def test_none_one_and_all_that_fit(self):
        for forest in LARGE_FORESTS:
            self.check(forest, (), True)
            for vertex in range(12):
                self.check(forest, (vertex,), True)
        self.check((0, ()), (), True)
        self.check(BARE_12, tuple(range(12)), True)
        self.check(PATH_12, (0, 2, 4, 6, 8, 10), True)
        self.check(STAR_12, tuple(range(1, 12)), True)
        self.check(STAR_12, tuple(range(12)), False)

    def test_adjacent_lamps(self):
        for forest in LARGE_FORESTS:
            for edge in forest[1]:
                self.check(forest, edge, False)

    def test_repeated_and_not_ascending(self):
        for items in product(range(4), repeat=3):
            self.check((4, ()), items, list(items) == sorted(set(items)))
        self.check(BARE_12, (0, 0), False)
        self.check(BARE_12, (11, 11), False)
        self.check(PATH_12, (2, 0), False)
        self.check(PATH_12, (0, 4, 2), False)

    def test_beyond_the_forest(self):
        for n in range(13):
            for number in odd_numbers(n):
                self.check((n, ()), (number,), False)
        for number in (12, 13, 10 ** 29):
            self.check(BARE_12, (0, number), False)
        self.check(BARE_12, (-1, 0), False)

    def test_bools(self):
        for items in [(True,), (False,), (False, 2), (0, True), (True, 3), (False, True), (True, 3, 5)]:
            self.check(BARE_12, items, False)

    def test_other_items(self):
        for value in odd_values():
            self.check(BARE_12, (value,), False)
            self.check(BARE_12, (0, value), False)
            self.check(BARE_12, (value, 11), False)
            self.check(BARE_12, (0, value, 11), False)

    def test_lists(self):
        for forest in all_forests(3):
            for setting in all_settings(forest):
                self.check(forest, list(setting), False)
                self.check(forest, [setting], False)
                self.check(forest, (setting,), False)

    def test_other_values(self):
        right = [(), (0,), (1,), (0, 1)]
        for value in odd_values() + [0, 1, -1]:
            plain = type(value) is tuple and all(type(item) is int for item in value)
            self.check(BARE_12, value, plain and value in right + [(0, 1, 2)])
            self.check((0, ()), value, value == () and type(value) is tuple)
