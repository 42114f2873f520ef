"""class_of, settings_of, classes_of, steps_between and shortest_plan ([10]), against searches."""

import unittest
from itertools import combinations, product

from tests.samples import (
    BARE_12, CATERPILLAR_12, CATERPILLAR_12_RENAMED, HUBS_11_RENAMED, LARGER_FORESTS, PATH_12, SPIDER_12, STAR_12,
    TREES_12, all_settings, class_by_search, classes_by_search, follow_by_words, is_free, renamed, small_forests,
    steps_from,
)
from treelamps.classes import class_of, classes_of, settings_of, shortest_plan, steps_between

EMPTY = (0, ())
ONE = (1, ())
TWO = (2, ((0, 1),))
PATH_4 = (4, ((0, 1), (1, 2), (2, 3)))
SPIDER_12_RENAMED = renamed(SPIDER_12, (11, 10, 9, 8, 7, 6, 5, 4, 3, 2, 1, 0))


def settings_by_words(forest, count):
    return tuple(chosen for chosen in combinations(range(forest[0]), count) if is_free(forest, chosen))


def best_plans(forest, first):
    """A dict from each setting that is reached to the smallest one of the plans with the least number of slides."""
    best = {first: ()}
    layer = [first]
    while layer:
        found = {}
        for setting in layer:
            for slide, other in steps_from(forest, setting):
                found.setdefault(other, []).append(best[setting] + (slide,))
        layer = [setting for setting in found if setting not in best]
        best.update({setting: min(found[setting]) for setting in layer})
    return best


def plans_of_length(forest, first, second, many):
    """All plans with that many slides, out of all tuples of pairs along edges."""
    pairs = [pair for a, b in forest[1] for pair in ((a, b), (b, a))]
    return [slides for slides in product(pairs, repeat=many) if follow_by_words(forest, first, slides) == second]


class ClassesTest(unittest.TestCase):
    def same(self, result, expected, case):
        """Equal, and with numbers and tuples in the same places."""
        self.assertEqual(repr(result), repr(expected), case)


class ClassOfTest(ClassesTest):
    def check(self, forest, setting):
        expected = tuple(sorted(class_by_search(forest, setting)))
        self.same(class_of(forest, setting), expected, (forest, setting))

    def test_all_settings_of_small_forests(self):
        for forest in small_forests(5):
            for setting in all_settings(forest):
                self.check(forest, setting)

    def test_settings_of_larger_forests(self):
        for forest in LARGER_FORESTS:
            settings = all_settings(forest)
            for setting in settings[::len(settings) // 12 + 1] + settings[-1:]:
                self.check(forest, setting)

    def test_known_ones(self):
        self.same(class_of(EMPTY, ()), ((),), "no vertices")
        self.same(class_of(ONE, (0,)), ((0,),), "one vertex")
        self.same(class_of(TWO, (1,)), ((0,), (1,)), "two vertices")
        self.same(class_of(PATH_12, ()), ((),), "no lamps")
        self.same(class_of(BARE_12, tuple(range(12))), (tuple(range(12)),), "twelve lamps")
        self.same(class_of(STAR_12, (3,)), tuple((v,) for v in range(12)), "one lamp")
        self.same(class_of(STAR_12, (3, 10)), ((3, 10),), "a lock")
        self.same(class_of(PATH_4, (1, 3)), ((0, 2), (0, 3), (1, 3)), "a path")

    def test_ascends_by_numbers(self):
        self.same(class_of(PATH_12, (11,)), tuple((v,) for v in range(12)), "9, 10 and 11")

    def test_the_same_for_each_member(self):
        for forest in (PATH_12, HUBS_11_RENAMED, CATERPILLAR_12_RENAMED):
            for settings in classes_by_search(forest)[::3]:
                results = {class_of(forest, setting) for setting in settings[::10]}
                self.assertEqual(results, {tuple(sorted(settings))}, forest)


class SettingsOfTest(ClassesTest):
    def test_every_count_of_small_forests(self):
        for forest in small_forests(5):
            for count in range(8):
                self.same(settings_of(forest, count), settings_by_words(forest, count), (forest, count))

    def test_every_count_of_larger_forests(self):
        for forest in LARGER_FORESTS:
            for count in range(15):
                self.same(settings_of(forest, count), settings_by_words(forest, count), (forest, count))

    def test_known_ones(self):
        self.same(settings_of(EMPTY, 0), ((),), "no vertices")
        self.same(settings_of(EMPTY, 1), (), "no vertices")
        self.same(settings_of(TWO, 2), (), "two vertices")
        self.same(settings_of(BARE_12, 12), (tuple(range(12)),), "twelve lamps")
        self.same(settings_of(STAR_12, 11), (tuple(range(1, 12)),), "eleven lamps")
        self.assertEqual(len(settings_of(BARE_12, 6)), 924)

    def test_more_than_fit(self):
        for forest in (EMPTY, ONE, TWO, PATH_12, BARE_12, STAR_12):
            for count in (13, 14, 100, 10 ** 29):
                self.same(settings_of(forest, count), (), (forest, count))
                self.same(classes_of(forest, count), (), (forest, count))


class ClassesOfTest(ClassesTest):
    def check(self, forest):
        classes = [tuple(sorted(settings)) for settings in classes_by_search(forest)]
        for count in range(forest[0] + 2):
            expected = tuple(sorted(settings for settings in classes if len(settings[0]) == count))
            self.same(classes_of(forest, count), expected, (forest, count))

    def test_every_count_of_small_forests(self):
        for forest in small_forests(5):
            self.check(forest)

    def test_every_count_of_larger_forests(self):
        for forest in LARGER_FORESTS:
            self.check(forest)

    def test_known_ones(self):
        self.same(classes_of(EMPTY, 0), (((),),), "no vertices")
        self.same(classes_of(EMPTY, 1), (), "no vertices")
        self.same(classes_of(PATH_12, 0), (((),),), "no lamps")
        self.same(classes_of((2, ()), 1), (((0,),), ((1,),)), "two parts")
        self.same(classes_of(TWO, 2), (), "more than fit")
        self.assertEqual(len(classes_of(STAR_12, 2)), 55)


class ShortestTest(ClassesTest):
    def check(self, forest, first, seconds):
        best = best_plans(forest, first)
        for second in seconds:
            case = (forest, first, second)
            plan = best.get(second)
            self.same(shortest_plan(*case), plan, case)
            self.same(steps_between(*case), None if plan is None else len(plan), case)

    def test_every_pair_of_small_forests(self):
        for forest in small_forests(5):
            settings = all_settings(forest)
            for first in settings:
                self.check(forest, first, settings)

    def test_pairs_of_larger_forests(self):
        for forest in LARGER_FORESTS + (SPIDER_12_RENAMED,):
            settings = all_settings(forest)
            for first in settings[::len(settings) // 6 + 1]:
                self.check(forest, first, settings[::len(settings) // 10 + 1])

    def test_pairs_of_one_class(self):
        for forest in LARGER_FORESTS + (SPIDER_12_RENAMED,):
            for settings in sorted(classes_by_search(forest), key=len)[-4:]:
                for first in (settings[0], settings[-1]):
                    self.check(forest, first, settings[::len(settings) // 8 + 1] + settings[-1:])

    def test_against_all_tuples_of_slides(self):
        for forest in small_forests(4):
            settings = all_settings(forest)
            for first in settings:
                for second in settings:
                    plan = shortest_plan(forest, first, second)
                    if plan is not None and len(plan) <= 4:
                        plans = plans_of_length(forest, first, second, len(plan))
                        self.same(plan, min(plans), (forest, first, second))
                        for many in range(len(plan)):
                            self.assertEqual(plans_of_length(forest, first, second, many), [])

    def test_a_setting_and_itself(self):
        for forest in LARGER_FORESTS + (EMPTY, ONE):
            for setting in all_settings(forest)[::-37]:
                self.same(steps_between(forest, setting, setting), 0, (forest, setting))
                self.same(shortest_plan(forest, setting, setting), (), (forest, setting))

    def test_not_reached(self):
        for forest, first, second in (
            (PATH_4, (0,), (0, 2)), (PATH_4, (), (0,)), (STAR_12, (1, 2), (1, 3)), (BARE_12, (0,), (1,)),
            (TREES_12, (1,), (3,)), (ONE, (), (0,)),
        ):
            self.assertIsNone(steps_between(forest, first, second))
            self.assertIsNone(shortest_plan(forest, first, second))

    def test_smallest_by_numbers(self):
        self.same(shortest_plan((12, ((8, 9), (10, 11))), (8, 10), (9, 11)), ((8, 9), (10, 11)), "8 and 10")
        self.same(shortest_plan((12, ((2, 3), (10, 11))), (2, 10), (3, 11)), ((2, 3), (10, 11)), "2 and 10")
        self.same(shortest_plan((12, ((0, 9), (7, 10), (8, 11))), (9, 10, 11), (0, 7, 8)),
                  ((9, 0), (10, 7), (11, 8)), "9, 10 and 11")
        self.same(shortest_plan((12, ((2, 9), (2, 10), (9, 11))), (2,), (11,)), ((2, 9), (9, 11)), "one way")

    def test_smallest_of_many(self):
        self.same(shortest_plan(PATH_12, (0, 4, 9), (1, 5, 10)), ((0, 1), (4, 5), (9, 10)), "any order is possible")
        self.same(shortest_plan(PATH_12, (1, 5, 10), (0, 4, 9)), ((1, 0), (5, 4), (10, 9)), "any order is possible")
        self.same(shortest_plan(PATH_12, (0, 2, 9), (1, 3, 10)), ((2, 3), (0, 1), (9, 10)), "2 before 0")
        self.same(shortest_plan(CATERPILLAR_12, (6, 11), (7, 10)),
                  ((6, 0), (0, 1), (1, 7), (11, 5), (5, 4), (4, 10)), "each way by itself")
