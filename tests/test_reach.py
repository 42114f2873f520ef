"""is_reachable and find_plan ([8])."""

import unittest

from tests.samples import (
    BARE_12, CATERPILLAR_12, CATERPILLAR_12_RENAMED, HUBS_11_RENAMED, LARGER_FORESTS, PATH_12, SPIDER_12, STAR_12,
    TREES_12, all_settings, classes_by_search, follow_by_words, small_forests,
)
from treelamps.reach import find_plan, is_reachable
from treelamps.slides import follow

PATH_4 = (4, ((0, 1), (1, 2), (2, 3)))


def numbered_settings(forest):
    """A dict from each setting to the number of its class."""
    return {setting: number for number, settings in enumerate(classes_by_search(forest)) for setting in settings}


class ReachTest(unittest.TestCase):
    def check(self, forest, first, second, reached):
        case = (forest, first, second)
        self.assertIs(is_reachable(*case), reached, case)
        plan = find_plan(*case)
        if not reached:
            self.assertIsNone(plan, case)
            return
        self.assertIs(type(plan), tuple)
        self.assertEqual(follow_by_words(forest, first, plan), second, case)
        self.assertEqual(follow(forest, first, plan), second)
        self.assertLessEqual(len(plan), forest[0] * forest[0], case)
        if first == second:
            self.assertEqual(plan, ())

    def check_pairs(self, forest, firsts, seconds, numbers):
        for first in firsts:
            for second in seconds:
                self.check(forest, first, second, numbers[first] == numbers[second])

    def test_every_pair(self):
        for forest in small_forests(5):
            numbers = numbered_settings(forest)
            self.check_pairs(forest, numbers, numbers, numbers)

    def test_pairs_of_larger_forests(self):
        for forest in LARGER_FORESTS:
            numbers = numbered_settings(forest)
            settings = list(numbers)
            step = len(settings) // 20 + 1
            self.check_pairs(forest, settings[::step], settings[1::step], numbers)

    def test_pairs_of_one_class(self):
        for forest in LARGER_FORESTS:
            for settings in classes_by_search(forest):
                ends = settings[:1] + settings[-1:] + settings[len(settings) // 2:][:1]
                for first in ends if len(settings) > 1 else []:
                    for second in ends:
                        self.check(forest, first, second, True)

    def test_all_pairs_of_the_greatest_class(self):
        for forest, many in ((CATERPILLAR_12, 4), (PATH_12, 5)):
            classes = [settings for settings in classes_by_search(forest) if len(settings[0]) == many]
            settings = max(classes, key=len)
            self.assertGreater(len(settings), 50)
            for first in settings[::4]:
                for second in settings:
                    self.check(forest, first, second, True)

    def test_pairs_with_equally_many_lamps(self):
        for forest in (STAR_12, SPIDER_12, HUBS_11_RENAMED, TREES_12):
            numbers = numbered_settings(forest)
            for many in range(7):
                settings = [setting for setting in numbers if len(setting) == many]
                some = settings[::len(settings) // 12 + 1]
                self.check_pairs(forest, some, some, numbers)

    def test_twelve_vertices_and_many_lamps(self):
        self.check(PATH_12, (0, 2, 4, 6, 8, 10), (1, 3, 5, 7, 9, 11), True)
        self.check(PATH_12, (1, 3, 5, 7, 9, 11), (0, 2, 4, 6, 8, 10), True)
        self.check(PATH_12, (0, 2, 4, 6, 8), (3, 5, 7, 9, 11), True)
        self.check(CATERPILLAR_12, (6, 7, 8, 9, 10, 11), (5, 6, 7, 8, 9, 10), True)
        for forest in (CATERPILLAR_12, CATERPILLAR_12_RENAMED):
            numbers = numbered_settings(forest)
            for many in (4, 5, 6):
                settings = [setting for setting in numbers if len(setting) == many]
                some = settings[::len(settings) // 15 + 1]
                self.check_pairs(forest, some, some, numbers)

    def test_a_setting_and_itself(self):
        for forest in LARGER_FORESTS + ((0, ()), (1, ())):
            for setting in all_settings(forest)[::-3]:
                self.assertIs(is_reachable(forest, setting, setting), True)
                self.assertEqual(find_plan(forest, setting, setting), ())

    def test_known_pairs(self):
        self.check((0, ()), (), (), True)
        self.check((1, ()), (), (0,), False)
        self.check((2, ()), (0,), (1,), False)
        self.check((2, ((0, 1),)), (0,), (1,), True)
        self.assertEqual(find_plan((2, ((0, 1),)), (0,), (1,)), ((0, 1),))
        self.check(PATH_4, (0, 2), (1, 3), True)
        self.check(PATH_4, (0,), (0, 2), False)
        self.check(STAR_12, (1,), (11,), True)
        self.check(STAR_12, (1, 2), (1, 3), False)
        self.check(STAR_12, (0,), (5,), True)
        self.check(BARE_12, (0, 3), (0, 4), False)

    def test_lamps_of_two_pieces_are_not_exchanged(self):
        kite = (7, ((0, 1), (1, 2), (1, 3), (1, 5), (3, 4), (5, 6)))
        self.check(kite, (0, 2, 3), (0, 2, 4), True)
        self.check(kite, (0, 2, 3), (0, 2, 5), False)
        self.check(kite, (0, 2, 3, 6), (0, 2, 4, 5), True)
        self.check(kite, (3,), (5,), True)

    def test_both_directions(self):
        for forest in LARGER_FORESTS:
            settings = all_settings(forest)
            for first, second in zip(settings[::5], settings[3::5]):
                self.assertIs(is_reachable(forest, first, second), is_reachable(forest, second, first))
