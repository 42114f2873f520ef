"""attempt without a goal ([12])."""

from copy import deepcopy
from random import Random

from tests.models import (
    SOME_FORESTS, VALUE_COUNTS, AttemptCase, board_states, drawn_board, drawn_edits, edit_error, edits_over, outcome,
    snapshot, states_after,
)
from tests.samples import BARE_12, PATH_12, all_settings, odd_values
from treelamps.boards import Board
from treelamps.errors import BadEdit, BadEdits, Rejected

PATH_3 = (3, ((0, 1), (1, 2)))
TWO_PATHS = (5, ((0, 1), (1, 2), (3, 4)))
OFF_AND_ON = [("dim", 0), ("light", 0)] * 10


def no_edits():
    """Values that are no edits, new ones at each call."""
    names = ["Light", "LIGHT", "light ", " light", "", "undo", "attempt", "forest", "lamps", "rigid", "normal",
             "reaches", "edits", "changed", "__init__", "__len__", None, True, 0, 1, ("light",), ["light"],
             {"light": 1}, Board(PATH_3, ())]
    wrong = [(name, *values) for name in names for values in ((), (0,), (0, 1))]
    for name, many in VALUE_COUNTS.items():
        wrong.extend((name, *values) for values in ((), (0,), (0, 1), (0, 1, 2), (None,)) if len(values) != many)
        wrong.extend([[name, *range(many)], (name, list(range(many)), 0, 0), (name, tuple(range(many)), 0, 0), name])
        wrong.append(((name, *range(many)),))
    return wrong + odd_values() + [0, -1, Board(PATH_3, ())]


class AttemptTest(AttemptCase):
    def test_zero_to_twenty_edits(self):
        for many in range(21):
            for number in range(6):
                draw = Random(100 * many + number)
                forest = draw.choice(SOME_FORESTS)
                lamps = draw.choice(all_settings(forest))
                edits = drawn_edits(draw, forest, lamps, many)
                for value in (edits, tuple(edits)):
                    board = Board(forest, lamps)
                    self.assertEqual(repr(board.attempt(value)), repr(many))
                    self.assertEqual(board_states(board), states_after(forest, lamps, edits))
                    self.assertEqual(repr(board.edits()), repr(tuple(edits)))
                    self.check_not_busy(board)

    def test_after_other_edits(self):
        for number in range(400, 430):
            board, states, edits = drawn_board(number)
            more = drawn_edits(Random(number), *states[-1], 7)
            self.assertEqual(board.attempt(more, goal=None), 7)
            self.assertEqual(board.edits(), tuple(edits + more))
            self.assertEqual(board_states(board), states[:-1] + states_after(*states[-1], more))

    def test_undone_one_by_one(self):
        for number in range(20):
            draw = Random(number)
            forest = draw.choice(SOME_FORESTS)
            lamps = draw.choice(all_settings(forest))
            edits = drawn_edits(draw, forest, lamps, 20)
            states = states_after(forest, lamps, edits)
            board = Board(forest, lamps)
            board.attempt(edits)
            for version in range(19, -1, -1):
                self.assertEqual(board.undo(), version)
                self.assertEqual((board.forest(), board.lamps()), states[version])
                self.assertEqual(board.edits(), tuple(edits[:version]))
            self.assertEqual(outcome(board.undo), ("NothingToUndo",))

    def test_each_of_the_six(self):
        board = Board(PATH_3, (0,))
        edits = [("grow", None), ("join", 3, 2), ("light", 3), ("cut", 2, 1), ("slide", 3, 2), ("dim", 0), ("grow", 3)]
        self.assertEqual(board.attempt(edits), 7)
        self.assertEqual((board.forest(), board.lamps()), ((5, ((0, 1), (2, 3), (3, 4))), (2,)))
        self.assertEqual(board.edits(), tuple(edits))

    def test_no_edits(self):
        for edits in ([], ()):
            board = Board(PATH_3, (0,))
            board.dim(0)
            before = snapshot(board)
            self.assertEqual(repr(board.attempt(edits)), "0")
            self.assertEqual(snapshot(board), before)

    def test_the_argument_does_not_change(self):
        board = Board(PATH_3, (0,))
        edits = [("dim", 0), ("light", 2)]
        board.attempt(edits)
        self.assertEqual(edits, [("dim", 0), ("light", 2)])

    def test_the_argument_is_changed_later(self):
        board = Board(PATH_3, (0,))
        edits = [("dim", 0), ("light", 2)]
        board.attempt(edits)
        edits[0] = ("grow", 1)
        edits.clear()
        self.assertEqual(board.edits(), (("dim", 0), ("light", 2)))
        self.assertEqual(board_states(board), [(PATH_3, (0,)), (PATH_3, ()), (PATH_3, (2,))])


class BadEditsTest(AttemptCase):
    def test_no_list_or_tuple(self):
        board = Board(PATH_3, (0,))
        for value in odd_values() + [0, 1, Board(PATH_3, ()), {"light": 0}, "light 0", {}]:
            if not isinstance(value, (list, tuple)) or len(value) > 20:
                self.check_fails(BadEdits, (), board, value)

    def test_longer_ones(self):
        for many in (21, 22, 40, 1000):
            edits = (OFF_AND_ON * 50)[:many]
            for value in (edits, tuple(edits), [None] * many, ("light",) * many):
                self.check_fails(BadEdits, (), Board(PATH_3, (0,)), value)

    def test_twenty_are_not_too_many(self):
        for value in (OFF_AND_ON, tuple(OFF_AND_ON)):
            self.assertEqual(Board(PATH_3, (0,)).attempt(value), 20)

    def test_before_a_bad_edit_and_with_sixty_edits(self):
        board = Board(PATH_3, (0,))
        for _ in range(3):
            board.attempt(OFF_AND_ON)
        self.check_fails(BadEdits, (), board, None)
        self.check_fails(BadEdits, (), board, [None] * 21)
        self.check_fails(BadEdit, (0,), board, [None])

    def test_the_goal_is_not_called(self):
        calls = []
        board = Board(PATH_3, (0,))
        self.check_fails(BadEdits, (), board, OFF_AND_ON + OFF_AND_ON, goal=calls.append)
        self.check_fails(BadEdits, (), board, "light 0", goal=calls.append)
        self.check_fails(BadEdit, (1,), board, [("dim", 0), ("dim",)], goal=calls.append)
        self.assertEqual(calls, [])


class BadEditTest(AttemptCase):
    def test_each_value_in_each_place(self):
        for value in no_edits():
            for place in (0, 1, 2, 19):
                edits = OFF_AND_ON[:place] + [value] + OFF_AND_ON[place + 1:]
                self.check_fails(BadEdit, (place,), Board(PATH_3, (0,)), edits)
                self.check_fails(BadEdit, (place,), Board(PATH_3, (0,)), tuple(edits[:place + 1]))

    def test_the_first_one(self):
        board = Board(PATH_3, (0,))
        self.check_fails(BadEdit, (1,), board, [("dim", 0), ["dim", 0], ("dim",), None])
        self.check_fails(BadEdit, (2,), board, (("dim", 0), ("light", 0), ("slide", 0), ("undo",)))

    def test_an_edit_instead_of_a_list_of_edits(self):
        self.check_fails(BadEdit, (0,), Board(PATH_3, (0,)), ("dim", 0))
        self.check_fails(BadEdit, (0,), Board(PATH_3, (0,)), ["dim", 0])

    def test_before_an_edit_that_raises_an_error(self):
        board = Board(PATH_3, (0,))
        self.check_fails(BadEdit, (2,), board, [("light", 0), ("dim", 7), ("dim",)])
        self.check_fails(BadEdit, (1,), board, [("light", 9), ()])

    def test_the_values_may_be_any_values(self):
        for value in odd_values() + [-1, 3, Board(PATH_3, ())]:
            for name, many in VALUE_COUNTS.items():
                if (name, value) != ("grow", None):
                    self.check_fails(Rejected, (0,), Board(PATH_3, (0,)), [(name, *[value] * many)])


class RejectedTest(AttemptCase):
    def test_every_edit_behind_others(self):
        for forest, lamps in ((TWO_PATHS, (0, 2, 4)), (PATH_12, (0, 5))):
            for edit in edits_over([None, True, False, -1, *range(5), forest[0]]):
                if edit_error(forest, lamps, edit) is not None:
                    for place in (0, 1, 4):
                        before = [("dim", 0), ("light", 0), ("cut", 0, 1), ("join", 1, 0)][:place]
                        if states_after(forest, lamps, before)[-1] == (forest, lamps):
                            self.check_fails(Rejected, (place,), Board(forest, lamps), before + [edit])
                            self.check_fails(Rejected, (place,), Board(forest, lamps), (*before, edit, ("dim", 0)))

    def test_drawn_edits(self):
        for number in range(150):
            draw = Random(number)
            board, states, edits = drawn_board(number)
            forest, lamps = states[-1]
            place = draw.randrange(20)
            right = drawn_edits(draw, forest, lamps, place)
            state = states_after(forest, lamps, right)[-1]
            some = edits_over([True, *range(state[0][0] + 1)])
            wrong = [edit for edit in some if edit_error(*state, edit) is not None]
            self.check_fails(Rejected, (place,), board, right + [draw.choice(wrong)] + [("dim", 0)] * (19 - place))
            self.assertEqual(board_states(board), states)
            self.assertEqual(board.edits(), tuple(edits))

    def test_the_sixty_first_edit(self):
        for stand in range(41, 61):
            board = Board(PATH_3, (0,))
            for _ in range(2):
                board.attempt(OFF_AND_ON)
            board.attempt(OFF_AND_ON[:stand - 40])
            if board.lamps() == ():
                more = OFF_AND_ON[1:] + OFF_AND_ON[:1]
            else:
                more = OFF_AND_ON
            self.check_fails(Rejected, (60 - stand,), board, more)
            self.assertEqual(len(board), stand)
            self.assertEqual(board.attempt(more[:60 - stand]), 60 - stand)
            self.assertEqual(len(board), 60)
            self.assertEqual(board.attempt([]), 0)

    def test_too_many_vertices(self):
        board = Board((10, ()), ())
        self.check_fails(Rejected, (2,), board, [("grow", None), ("grow", 10), ("grow", 11)])
        self.assertEqual(board.attempt([("grow", None), ("grow", 10)]), 2)

    def test_edits_after_a_rejected_attempt(self):
        board = Board(BARE_12, ())
        self.check_fails(Rejected, (3,), board, [("light", 0), ("light", 1), ("join", 2, 3), ("join", 0, 1)])
        self.assertEqual([board.light(4), board.attempt([("light", 0)]), board.lamps()], [1, 1, (0, 4)])

    def test_the_argument_does_not_change(self):
        edits = [("light", [0, {"a": [1]}]), ("dim", (0,)), ("grow", {"b": 2})]
        before = deepcopy(edits)
        self.check_fails(Rejected, (0,), Board(PATH_3, (0,)), edits)
        self.assertEqual(repr(edits), repr(before))
