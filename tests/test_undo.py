"""undo ([12]) and versions ([13])."""

import unittest

from tests.models import drawn_board, make, outcome, right_edits, snapshot
from tests.samples import greatest_by_words, odd_numbers, odd_values
from treelamps.boards import Board
from treelamps.errors import NothingToUndo, NoVersion
from treelamps.reach import normal_setting

PATH_3 = (3, ((0, 1), (1, 2)))
QUERIES = ("forest", "lamps", "rigid", "normal")


def answers(forest, lamps):
    """What the four queries return for a forest and lamps."""
    return (forest, lamps, greatest_by_words(forest, lamps), normal_setting(forest, lamps))


def queried(board, **keywords):
    return tuple(getattr(board, name)(**keywords) for name in QUERIES)


class UndoTest(unittest.TestCase):
    def test_down_to_the_first_state_and_one_more(self):
        for number in range(60):
            board, states, edits = drawn_board(number)
            while edits:
                edits.pop()
                states.pop()
                self.assertEqual(repr(board.undo()), repr(len(edits)))
                self.assertEqual((board.forest(), board.lamps()), states[-1])
                self.assertEqual(board.edits(), tuple(edits))
            before = snapshot(board)
            for _ in range(2):
                self.assertEqual(outcome(board.undo), ("NothingToUndo",))
            self.assertEqual(snapshot(board), before)

    def test_each_edit(self):
        forest, lamps = (5, ((0, 1), (1, 2), (3, 4))), (0, 4)
        for edit in right_edits(forest, lamps):
            board = Board(forest, lamps)
            before = snapshot(board)
            make(board, edit)
            self.assertEqual(board.undo(), 0)
            self.assertEqual(snapshot(board), before, edit)

    def test_nothing_to_undo(self):
        with self.assertRaises(NothingToUndo) as caught:
            Board(PATH_3, (0,)).undo()
        self.assertIs(type(caught.exception), NothingToUndo)
        self.assertEqual(outcome(Board((0, ()), ()).undo), ("NothingToUndo",))

    def test_edits_after_undos(self):
        board = Board(PATH_3, (0,))
        self.assertEqual([board.slide(0, 1), board.slide(1, 2), board.undo(), board.undo()], [1, 2, 1, 0])
        self.assertEqual([board.grow(2), board.light(3)], [1, 2])
        self.assertEqual(board.edits(), (("grow", 2), ("light", 3)))
        self.assertEqual([board.lamps(version=k) for k in range(3)], [(0,), (0,), (0, 3)])

    def test_a_failing_edit_is_not_undone(self):
        board = Board(PATH_3, (0,))
        board.slide(0, 1)
        self.assertEqual(outcome(board.light, 0), ("Blocked", 1))
        self.assertEqual([board.undo(), board.lamps()], [0, (0,)])


class VersionsTest(unittest.TestCase):
    def test_every_version(self):
        for number in range(100, 160):
            board, states, edits = drawn_board(number)
            self.assertEqual(len(board), len(edits))
            for version, state in enumerate(states):
                self.assertEqual(repr(queried(board, version=version)), repr(answers(*state)), (number, version))
            self.assertEqual(queried(board), answers(*states[-1]))
            self.assertEqual(queried(board, version=None), answers(*states[-1]))

    def test_queries_change_nothing(self):
        for number in range(160, 180):
            board, states, edits = drawn_board(number)
            before = snapshot(board)
            self.assertEqual(snapshot(board), before)
            self.assertEqual(board.edits(), tuple(edits))

    def test_no_version(self):
        board = Board(PATH_3, (0,))
        board.slide(0, 1)
        board.slide(1, 2)
        board.undo()
        for value in [2, 3, 60, *odd_numbers(2), *odd_values(), board]:
            for name in QUERIES:
                if value is not None:
                    with self.assertRaises(NoVersion) as caught:
                        getattr(board, name)(version=value)
                    self.assertIs(type(caught.exception), NoVersion)
                    self.assertIs(caught.exception.value, value)

    def test_bools_are_no_versions(self):
        board = Board(PATH_3, (0,))
        board.slide(0, 1)
        for name in QUERIES:
            for value in (True, False):
                self.assertEqual(repr(outcome(getattr(board, name), version=value)), repr(("NoVersion", value)))

    def test_an_undone_version_is_none(self):
        board = Board(PATH_3, (0,))
        board.slide(0, 1)
        self.assertEqual(board.lamps(version=1), (1,))
        board.undo()
        self.assertEqual(outcome(board.lamps, version=1), ("NoVersion", 1))
        board.dim(0)
        self.assertEqual(board.lamps(version=1), ())

    def test_a_version_is_passed_by_keyword(self):
        board = Board(PATH_3, (0,))
        for name in QUERIES:
            self.assertRaises(TypeError, getattr(board, name), 0)
