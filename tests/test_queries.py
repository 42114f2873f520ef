"""rigid, normal, reaches, edits, len, str and == of a board ([13])."""

import unittest

from tests.models import drawn_board, make, outcome, right_edits, snapshot
from tests.samples import (
    LARGER_FORESTS, PATH_12, STAR_12, all_settings, greatest_by_words, is_free, odd_values, small_forests,
    with_one_part_replaced,
)
from treelamps.boards import Board
from treelamps.errors import BadSetting
from treelamps.locks import greatest_lock
from treelamps.reach import certificate_holds, find_certificate, normal_setting

PATH_3 = (3, ((0, 1), (1, 2)))
PATH_4 = (4, ((0, 1), (1, 2), (2, 3)))
KITE = (7, ((0, 1), (1, 2), (1, 3), (1, 5), (3, 4), (5, 6)))


def is_setting_by_words(forest, value):
    if type(value) is not tuple or any(type(item) is not int or not 0 <= item < forest[0] for item in value):
        return False
    return list(value) == sorted(set(value)) and is_free(forest, value)


class RigidAndNormalTest(unittest.TestCase):
    def test_new_boards(self):
        for forest in small_forests(4) + list(LARGER_FORESTS):
            for lamps in all_settings(forest)[::-7]:
                board = Board(forest, lamps)
                self.assertEqual(board.rigid(), greatest_by_words(forest, lamps))
                self.assertEqual(board.normal(), normal_setting(forest, lamps))

    def test_every_version(self):
        for number in range(200, 230):
            board, states, edits = drawn_board(number)
            for version, state in enumerate(states):
                self.assertEqual(board.rigid(version=version), greatest_lock(*state))
                self.assertEqual(board.normal(version=version), normal_setting(*state))

    def test_after_each_edit(self):
        board = Board(PATH_3, (0, 2))
        self.assertEqual((board.rigid(), board.normal()), ((0, 2), (0, 2)))
        board.grow(2)
        self.assertEqual((board.rigid(), board.normal()), ((), (0, 2)))
        board.slide(2, 3)
        self.assertEqual((board.rigid(), board.normal()), ((), (0, 2)))
        board.cut(2, 3)
        self.assertEqual((board.rigid(), board.normal()), ((3,), (0, 3)))
        board.undo()
        self.assertEqual((board.rigid(), board.normal()), ((), (0, 2)))


class ReachesTest(unittest.TestCase):
    def check(self, board, setting):
        before = snapshot(board)
        result = board.reaches(setting)
        self.assertEqual(repr(result), repr(find_certificate(board.forest(), board.lamps(), setting)))
        self.assertIs(certificate_holds(board.forest(), board.lamps(), setting, result), True)
        self.assertEqual(snapshot(board), before)

    def test_every_pair(self):
        for forest in small_forests(4):
            for first in all_settings(forest):
                for second in all_settings(forest):
                    self.check(Board(forest, first), second)

    def test_larger_forests(self):
        for forest in LARGER_FORESTS:
            settings = all_settings(forest)
            for first in settings[::len(settings) // 5 + 1]:
                board = Board(forest, first)
                for second in settings[::len(settings) // 9 + 1]:
                    self.check(board, second)

    def test_after_edits(self):
        for number in range(230, 260):
            board, states, edits = drawn_board(number)
            forest = board.forest()
            for setting in all_settings(forest)[::97]:
                self.check(board, setting)

    def test_each_kind(self):
        self.assertEqual(Board(PATH_4, (0, 2)).reaches((0, 2)), ("plan", ()))
        self.assertEqual(Board(PATH_4, (0, 2)).reaches((0, 3)), ("plan", find_certificate(PATH_4, (0, 2), (0, 3))[1]))
        self.assertEqual(Board(PATH_3, (0, 2)).reaches((1,)), ("lock", 0, (0, 2)))
        self.assertEqual(Board(PATH_3, (1,)).reaches((0, 2)), ("lock", 1, (0, 2)))
        self.assertEqual(Board(PATH_4, (0,)).reaches((0, 2)), ("count", (), (0, 1, 2, 3)))
        self.assertEqual(Board(KITE, (0, 2, 3)).reaches((0, 2, 5)), ("count", (0, 2), (3, 4)))
        self.assertEqual(Board((0, ()), ()).reaches(()), ("plan", ()))

    def test_the_present_state(self):
        board = Board(PATH_3, (0, 2))
        self.assertEqual(board.reaches((1,)), ("lock", 0, (0, 2)))
        board.dim(2)
        self.assertEqual(board.reaches((1,)), ("plan", ((0, 1),)))
        self.assertEqual(outcome(board.reaches, (3,)), ("BadSetting",))
        board.grow(None)
        self.assertEqual(board.reaches((3,)), ("lock", 1, (3,)))

    def test_bad_setting(self):
        for forest in ((0, ()), PATH_3, STAR_12, PATH_12):
            board = Board(forest, all_settings(forest)[-1])
            before = snapshot(board)
            values = list(with_one_part_replaced(all_settings(forest)[-1], odd_values() + [-1, forest[0], 0, 1]))
            for value in values + [(1, 0), (0, 0), (0, 1), (True,), (False,), [0], (12,), board]:
                if not is_setting_by_words(forest, value):
                    with self.assertRaises(BadSetting) as caught:
                        board.reaches(value)
                    self.assertIs(type(caught.exception), BadSetting)
                    self.assertEqual(vars(caught.exception), {})
            self.assertEqual(snapshot(board), before)


class EditsTest(unittest.TestCase):
    def test_each_edit_as_it_was_made(self):
        forest, lamps = (5, ((0, 1), (1, 2), (3, 4))), (0, 4)
        for edit in right_edits(forest, lamps):
            board = Board(forest, lamps)
            make(board, edit)
            self.assertEqual(repr(board.edits()), repr((edit,)))

    def test_in_order(self):
        board = Board(PATH_3, (0,))
        board.grow(None)
        board.join(3, 2)
        board.light(3)
        board.cut(2, 1)
        board.slide(3, 2)
        board.dim(0)
        self.assertEqual(board.edits(), (
            ("grow", None), ("join", 3, 2), ("light", 3), ("cut", 2, 1), ("slide", 3, 2), ("dim", 0)))
        board.undo()
        self.assertEqual(board.edits()[-1], ("slide", 3, 2))

    def test_an_earlier_result_stays_as_it_was(self):
        board = Board(PATH_3, (0,))
        board.dim(0)
        edits, forest, lamps = board.edits(), board.forest(), board.lamps()
        board.grow(0)
        board.light(3)
        self.assertEqual((edits, forest, lamps), ((("dim", 0),), PATH_3, ()))


class LenAndStrTest(unittest.TestCase):
    def test_drawn_boards(self):
        for number in range(260, 300):
            board, states, edits = drawn_board(number)
            (n, edges), lamps = states[-1]
            self.assertEqual(repr(len(board)), repr(len(edits)))
            self.assertEqual(str(board), f"{n} vertices, {len(edges)} edges, {len(lamps)} lamps, {len(edits)} edits")

    def test_the_words_stay_the_same(self):
        board = Board((1, ()), (0,))
        self.assertEqual(str(board), "1 vertices, 0 edges, 1 lamps, 0 edits")
        board.grow(0)
        self.assertEqual(str(board), "2 vertices, 1 edges, 1 lamps, 1 edits")
        self.assertEqual(str(Board((0, ()), ())), "0 vertices, 0 edges, 0 lamps, 0 edits")
        self.assertEqual(str(Board(PATH_12, (9, 11))), "12 vertices, 11 edges, 2 lamps, 0 edits")


class EqualTest(unittest.TestCase):
    def check(self, one, other, equal):
        self.assertIs(one == other, equal)
        self.assertIs(other == one, equal)
        self.assertIs(one != other, not equal)

    def test_every_pair_of_small_boards(self):
        states = [(forest, lamps) for forest in small_forests(3) for lamps in all_settings(forest)]
        for first in states:
            for second in states:
                self.check(Board(*first), Board(*second), first == second)

    def test_different_histories(self):
        board = Board(PATH_3, (0,))
        board.slide(0, 1)
        board.slide(1, 2)
        self.check(board, Board(PATH_3, (2,)), True)
        self.check(board, Board(PATH_3, (0,)), False)
        other = Board((2, ((0, 1),)), ())
        other.grow(1)
        other.light(2)
        self.check(board, other, True)
        other.undo()
        self.check(board, other, False)
        self.check(board, board, True)

    def test_lamps_alone_or_forest_alone(self):
        self.check(Board(PATH_3, (0,)), Board(PATH_3, (2,)), False)
        self.check(Board(PATH_3, (0,)), Board((3, ((0, 1),)), (0,)), False)
        self.check(Board((1, ()), ()), Board((2, ()), ()), False)

    def test_other_values(self):
        board = Board(PATH_3, (0,))
        for value in odd_values() + [0, 3, PATH_3, (PATH_3, (0,)), str(board), object()]:
            self.check(board, value, False)

    def test_drawn_boards(self):
        for number in range(300, 320):
            board, states, edits = drawn_board(number)
            self.check(board, Board(*states[-1]), True)
            self.check(board, Board(*states[0]), states[0] == states[-1])
