"""The guarantees (a) to (f) of [2], against a search through all slides."""

import unittest

from tests.samples import (
    CATERPILLAR_12, HUBS_11_RENAMED, LARGER_FORESTS, PATH_12, TREES_12, all_settings, classes_by_search,
    slide_is_possible, small_forests, steps_from,
)
from treelamps.locks import greatest_lock, lamp_certificate, lamp_holds
from treelamps.pieces import piece_counts
from treelamps.reach import certificate_holds, find_certificate, find_plan, is_reachable, normal_setting
from treelamps.slides import possible_slides


def slides_until_it_moves(forest, setting, lamp):
    """The least number of slides of which the last one is the first that begins at the lamp, or None."""
    found = [(setting, 1)]
    seen = {setting}
    for one, many in found:
        if any(slide_is_possible(forest, one, lamp, v) for v in range(forest[0])):
            return many
        for _, other in steps_from(forest, one):
            if other not in seen:
                seen.add(other)
                found.append((other, many + 1))
    return None


class GuaranteesTest(unittest.TestCase):
    def test_a_lamps_that_can_never_move(self):
        larger = [(forest, all_settings(forest)[::-61]) for forest in LARGER_FORESTS]
        for forest, settings in [(forest, all_settings(forest)) for forest in small_forests(5)] + larger:
            for setting in settings:
                lock = greatest_lock(forest, setting)
                for lamp in setting:
                    many = slides_until_it_moves(forest, setting, lamp)
                    self.assertIs(many is None, lamp in lock, (forest, setting, lamp))
                    self.assertTrue(many is None or many <= len(setting), (forest, setting, lamp))

    def test_b_reachable(self):
        for forest in small_forests(4) + list(LARGER_FORESTS):
            keys = []
            for settings in classes_by_search(forest):
                locks = {greatest_lock(forest, setting) for setting in settings}
                self.assertEqual(len(locks), 1, (forest, settings[0]))
                (lock,) = locks
                counts = {piece_counts(forest, setting, lock) for setting in settings}
                self.assertEqual(len(counts), 1, (forest, settings[0]))
                keys.append((lock, counts.pop()))
            self.assertEqual(len(set(keys)), len(keys), forest)

    def test_c_length_of_plans(self):
        for forest in LARGER_FORESTS:
            for settings in classes_by_search(forest):
                normal = normal_setting(forest, settings[0])
                for setting in settings[::9]:
                    for plan in (find_plan(forest, setting, normal), find_plan(forest, setting, settings[-1])):
                        self.assertLessEqual(len(plan), forest[0] * forest[0], (forest, setting))

    def test_d_what_is_accepted_is_correct(self):
        for forest in small_forests(4) + [PATH_12, TREES_12, HUBS_11_RENAMED, CATERPILLAR_12]:
            settings = all_settings(forest)
            settings = settings[::len(settings) // 12 + 1]
            certificates = [find_certificate(forest, a, b) for a in settings for b in settings]
            for first in settings[::2]:
                for second in settings[1::2]:
                    reached = is_reachable(forest, first, second)
                    kinds = {value[0] == "plan" for value in certificates
                             if certificate_holds(forest, first, second, value)}
                    self.assertEqual(kinds, {reached}, (forest, first, second))

    def test_d_what_is_accepted_of_lamps_is_correct(self):
        for forest in small_forests(5):
            for setting in all_settings(forest):
                certificates = [lamp_certificate(forest, setting, lamp) for lamp in setting]
                lock = greatest_lock(forest, setting)
                for lamp in setting:
                    kinds = {value[0] for value in certificates if lamp_holds(forest, setting, lamp, value)}
                    self.assertEqual(kinds, {"rigid" if lamp in lock else "moves"}, (forest, setting, lamp))

    def test_e_normal_settings(self):
        for forest in small_forests(4) + list(LARGER_FORESTS):
            settings = all_settings(forest)
            settings = settings[::len(settings) // 20 + 1]
            for first in settings:
                for second in settings:
                    same = normal_setting(forest, first) == normal_setting(forest, second)
                    self.assertIs(is_reachable(forest, first, second), same, (forest, first, second))

    def test_f_some_slide_is_possible(self):
        for forest in small_forests(5) + list(LARGER_FORESTS):
            for setting in all_settings(forest):
                some = greatest_lock(forest, setting) != setting
                self.assertIs(bool(steps_from(forest, setting)), some, (forest, setting))
                self.assertIs(bool(possible_slides(forest, setting)), some, (forest, setting))
