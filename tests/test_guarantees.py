"""The guarantees of [2]: (a) to (f) against a search through all slides, (g) after drawn edits and undos."""

import unittest
from random import Random

from tests.models import SOME_FORESTS, drawn_board, make, right_edits
from tests.samples import (
    CATERPILLAR_12, HUBS_11_RENAMED, LARGER_FORESTS, PATH_12, TREES_12, all_settings, classes_by_search,
    slide_is_possible, small_forests, steps_from,
)
from treelamps.boards import Board
from treelamps.locks import greatest_lock, lamp_certificate, lamp_holds
from treelamps.pieces import piece_counts
from treelamps.reach import certificate_holds, find_certificate, find_plan, is_reachable, normal_setting
from treelamps.slides import possible_slides


def slides_until_it_moves(forest, setting, lamp):
    """The least number of slides of which the last one is the first that begins at the lamp, or None."""
    found = [(setting, 1)]
    seen = {setting}
    for one, many in found:
        if any(slide_is_possible(forest, one, lamp, v) for v in range(forest[0])):
            return many
        for _, other in steps_from(forest, one):
            if other not in seen:
                seen.add(other)
                found.append((other, many + 1))
    return None


class GuaranteesTest(unittest.TestCase):
    def test_a_lamps_that_can_never_move(self):
        larger = [(forest, all_settings(forest)[::-61]) for forest in LARGER_FORESTS]
        for forest, settings in [(forest, all_settings(forest)) for forest in small_forests(5)] + larger:
            for setting in settings:
                lock = greatest_lock(forest, setting)
                for lamp in setting:
                    many = slides_until_it_moves(forest, setting, lamp)
                    self.assertIs(many is None, lamp in lock, (forest, setting, lamp))
                    self.assertTrue(many is None or many <= len(setting), (forest, setting, lamp))

    def test_b_reachable(self):
        for forest in small_forests(4) + list(LARGER_FORESTS):
            keys = []
            for settings in classes_by_search(forest):
                locks = {greatest_lock(forest, setting) for setting in settings}
                self.assertEqual(len(locks), 1, (forest, settings[0]))
                (lock,) = locks
                counts = {piece_counts(forest, setting, lock) for setting in settings}
                self.assertEqual(len(counts), 1, (forest, settings[0]))
                keys.append((lock, counts.pop()))
            self.assertEqual(len(set(keys)), len(keys), forest)

    def test_c_length_of_plans(self):
        for forest in LARGER_FORESTS:
            for settings in classes_by_search(forest):
                normal = normal_setting(forest, settings[0])
                for setting in settings[::9]:
                    for plan in (find_plan(forest, setting, normal), find_plan(forest, setting, settings[-1])):
                        self.assertLessEqual(len(plan), forest[0] * forest[0], (forest, setting))

    def test_d_what_is_accepted_is_correct(self):
        for forest in small_forests(4) + [PATH_12, TREES_12, HUBS_11_RENAMED, CATERPILLAR_12]:
            settings = all_settings(forest)
            settings = settings[::len(settings) // 12 + 1]
            certificates = [find_certificate(forest, a, b) for a in settings for b in settings]
            for first in settings[::2]:
                for second in settings[1::2]:
                    reached = is_reachable(forest, first, second)
                    kinds = {value[0] == "plan" for value in certificates
                             if certificate_holds(forest, first, second, value)}
                    self.assertEqual(kinds, {reached}, (forest, first, second))

    def test_d_what_is_accepted_of_lamps_is_correct(self):
        for forest in small_forests(5):
            for setting in all_settings(forest):
                certificates = [lamp_certificate(forest, setting, lamp) for lamp in setting]
                lock = greatest_lock(forest, setting)
                for lamp in setting:
                    kinds = {value[0] for value in certificates if lamp_holds(forest, setting, lamp, value)}
                    self.assertEqual(kinds, {"rigid" if lamp in lock else "moves"}, (forest, setting, lamp))

    def test_e_normal_settings(self):
        for forest in small_forests(4) + list(LARGER_FORESTS):
            settings = all_settings(forest)
            settings = settings[::len(settings) // 20 + 1]
            for first in settings:
                for second in settings:
                    same = normal_setting(forest, first) == normal_setting(forest, second)
                    self.assertIs(is_reachable(forest, first, second), same, (forest, first, second))

    def test_f_some_slide_is_possible(self):
        for forest in small_forests(5) + list(LARGER_FORESTS):
            for setting in all_settings(forest):
                some = greatest_lock(forest, setting) != setting
                self.assertIs(bool(steps_from(forest, setting)), some, (forest, setting))
                self.assertIs(bool(possible_slides(forest, setting)), some, (forest, setting))

    def check_as_new(self, board, state):
        """The board answers as a new board of this forest and these lamps does."""
        new = Board(*state)
        found = (board.forest(), board.lamps(), board.rigid(), board.normal())
        self.assertEqual(repr(found), repr((new.forest(), new.lamps(), new.rigid(), new.normal())))
        self.assertEqual(found[:2], state)
        self.assertEqual(board, new)

    def test_g_edits_and_undos(self):
        for number in range(600, 700):
            board, states, edits = drawn_board(number)
            self.check_as_new(board, states[-1])
            self.check_as_new(board, (board.forest(), board.lamps()))

    def test_g_after_each_edit_undo_and_attempt(self):
        for number in range(700, 740):
            draw = Random(number)
            forest = draw.choice(SOME_FORESTS)
            board = Board(forest, draw.choice(all_settings(forest)))
            for _ in range(25):
                edits = draw.sample(right_edits(board.forest(), board.lamps()), 1)
                way = draw.randrange(4)
                if way == 0 and len(board):
                    board.undo()
                elif way == 1:
                    board.attempt(edits, goal=lambda one: len(one) % 2 == 0)
                elif way == 2:
                    self.assertRaises(ValueError, board.attempt, edits + [("dim", 12)])
                else:
                    make(board, edits[0])
                self.check_as_new(board, (board.forest(), board.lamps()))

    def test_g_and_plans_done_as_edits(self):
        for number in range(740, 800):
            draw = Random(number)
            board, states, edits = drawn_board(number)
            while len(board):
                board.undo()
            forest = board.forest()
            for settings in [settings for settings in classes_by_search(forest) if board.lamps() in settings]:
                wanted = draw.choice(settings)
                kind, slides = board.reaches(wanted)
                self.assertEqual(kind, "plan")
                self.assertLessEqual(len(slides), 60)
                for version, (u, v) in enumerate(slides, 1):
                    self.assertEqual(board.slide(u, v), version)
                self.check_as_new(board, (forest, wanted))
                self.assertEqual(board.reaches(wanted), ("plan", ()))
                for _ in slides:
                    board.undo()
                self.check_as_new(board, states[0])

    def test_plans_attempted_as_edits(self):
        for forest in SOME_FORESTS:
            for settings in classes_by_search(forest)[::9]:
                first, second = settings[0], settings[-1]
                board = Board(forest, first)
                edits = [("slide", u, v) for u, v in board.reaches(second)[1]]
                for start in range(0, len(edits), 20):
                    part = edits[start:start + 20]
                    self.assertEqual(board.attempt(part), len(part))
                self.check_as_new(board, (forest, second))
