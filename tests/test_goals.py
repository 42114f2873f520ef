"""attempt with a goal ([12])."""

from random import Random

from tests.models import (
    SOME_FORESTS, VALUE_COUNTS, AttemptCase, board_states, drawn_board, drawn_edits, make, outcome, snapshot,
    states_after,
)
from tests.samples import all_settings, odd_values
from treelamps.boards import Board
from treelamps.errors import (
    BadEdit, BadEdits, BadForest, BadSetting, BadSlides, BadText, Blocked, Busy, Cycle, LampError, LampsMeet, Lit,
    NoLamp, NotAdjacent, NothingToUndo, NoVersion, NoVertex, Rejected, TooManyEdits, TooManyVertices,
)
from treelamps.locks import greatest_lock
from treelamps.reach import find_certificate, normal_setting

PATH_3 = (3, ((0, 1), (1, 2)))
BACK_AND_FORTH = [("slide", 0, 1), ("slide", 1, 2), ("slide", 2, 1), ("slide", 1, 0)]
PACKAGE_ERRORS = (
    NoLamp(1), NotAdjacent(2), Blocked(0), BadSlides(None), TooManyVertices(12), NoVertex(5), Cycle((0, 1)),
    BadForest((None, "tuple")), BadSetting(), Lit(0), LampsMeet(), TooManyEdits(), NothingToUndo(), BadEdits(),
    BadEdit(0), Rejected(1), Busy(), BadText(3), LampError("own"), NoVersion(7),
)


class OtherError(Exception):
    pass


class Stop(BaseException):
    pass


OTHER_ERRORS = (
    ValueError("x"), LookupError("x"), KeyError("x"), IndexError(1), TypeError("x"), AttributeError("x"),
    RuntimeError("x"), StopIteration(3), ZeroDivisionError(), AssertionError(), RecursionError(), MemoryError(),
    OSError(), Exception(), OtherError(), Stop(), KeyboardInterrupt(), GeneratorExit(), SystemExit(0),
)


class Unclear:
    """A value whose truth raises an error."""

    def __init__(self, error):
        self.error = error

    def __bool__(self):
        raise self.error


def accepting_at(number, calls, value=True):
    """A goal that accepts the board at its call of this number, from 0 on, and keeps the lengths it saw."""
    def goal(board):
        calls.append(len(board))
        return value if len(calls) == number + 1 else None
    return goal


def raising_at(number, error):
    """A goal that raises the error at its call of this number, from 0 on."""
    calls = []

    def goal(board):
        calls.append(board)
        if len(calls) == number + 1:
            raise error
    return goal


def board_with_edits():
    board = Board(PATH_3, (2,))
    board.slide(2, 1)
    board.slide(1, 0)
    return board


class CallsTest(AttemptCase):
    def test_before_the_first_edit_and_after_each_one(self):
        for many in range(5):
            for value in (BACK_AND_FORTH[:many], tuple(BACK_AND_FORTH[:many])):
                calls = []
                self.assertEqual(board_with_edits().attempt(value, goal=accepting_at(99, calls)), many)
                self.assertEqual(calls, list(range(2, many + 3)))

    def test_it_is_given_this_very_board(self):
        seen = []
        board = board_with_edits()
        board.attempt(BACK_AND_FORTH, goal=seen.append)
        self.assertEqual(len(seen), 5)
        for one in seen:
            self.assertIs(one, board)

    def test_no_more_calls_once_it_accepts(self):
        for number in range(5):
            calls = []
            board = board_with_edits()
            self.assertEqual(repr(board.attempt(BACK_AND_FORTH, goal=accepting_at(number, calls))), repr(number))
            self.assertEqual(calls, list(range(2, number + 3)))
            self.assertEqual(board.edits()[2:], tuple(BACK_AND_FORTH[:number]))

    def test_no_edits(self):
        for edits in ([], ()):
            for value in (True, False, None, "yes"):
                calls = []
                board = board_with_edits()
                before = snapshot(board)
                self.assertEqual(repr(board.attempt(edits, goal=accepting_at(0, calls, value))), "0")
                self.assertEqual(calls, [2])
                self.assertEqual(snapshot(board), before)
                self.check_not_busy(board)

    def test_accepted_at_once_changes_nothing(self):
        board = board_with_edits()
        before = snapshot(board)
        self.assertEqual(board.attempt(BACK_AND_FORTH, goal=lambda one: True), 0)
        self.assertEqual(snapshot(board), before)
        self.check_not_busy(board)

    def test_accepted_before_an_edit_that_would_raise_an_error(self):
        for number in range(3):
            board = board_with_edits()
            edits = BACK_AND_FORTH[:number] + [("dim", 7), ("dim", 8)]
            self.assertEqual(board.attempt(edits, goal=accepting_at(number, [])), number)

    def test_with_sixty_edits(self):
        board = Board(PATH_3, (0,))
        for _ in range(3):
            board.attempt([("dim", 0), ("light", 0)] * 10)
        calls = []
        self.assertEqual(board.attempt([("dim", 0)], goal=accepting_at(0, calls)), 0)
        self.check_fails(Rejected, (0,), board, [("dim", 0)], goal=accepting_at(9, calls))
        self.assertEqual(calls, [60, 60])

    def test_calls_before_a_rejected_edit(self):
        for number in range(5):
            calls = []
            edits = BACK_AND_FORTH[:number] + [("dim", 7), ("light", 2)]
            self.check_fails(Rejected, (number,), board_with_edits(), edits, goal=accepting_at(99, calls))
            self.assertEqual(calls, list(range(2, number + 3)))

    def test_it_is_passed_by_keyword(self):
        self.assertRaises(TypeError, board_with_edits().attempt, [], lambda one: True)

    def test_any_callable(self):
        class Goal:
            def __call__(self, board):
                return board.lamps() == (1,)

            def __len__(self):
                return 0

        self.assertEqual(board_with_edits().attempt(BACK_AND_FORTH, goal=Goal()), 1)
        self.assertEqual(board_with_edits().attempt(BACK_AND_FORTH, goal=len), 0)


class ValuesTest(AttemptCase):
    def test_values_that_count_as_true(self):
        values = [value for value in odd_values() + [1, 2, -1, object(), board_with_edits(), len, 0.5] if value]
        self.assertGreater(len(values), 20)
        for value in values:
            for number in (0, 1, 4):
                board = board_with_edits()
                self.assertEqual(board.attempt(BACK_AND_FORTH, goal=accepting_at(number, [], value)), number)
                self.assertEqual(len(board), number + 2)

    def test_values_that_count_as_false(self):
        for value in (None, False, 0, "", (), [], {}, set(), 0.0, Board(PATH_3, ())):
            board = board_with_edits()
            self.assertEqual(board.attempt(BACK_AND_FORTH, goal=lambda one: value), 4)
            self.assertEqual(board.edits()[2:], tuple(BACK_AND_FORTH))

    def test_drawn_goals(self):
        for number in range(100):
            draw = Random(number)
            forest = draw.choice(SOME_FORESTS)
            lamps = draw.choice(all_settings(forest))
            edits = drawn_edits(draw, forest, lamps, draw.randrange(21))
            states = states_after(forest, lamps, edits)
            wanted = draw.choice(states)
            board = Board(forest, lamps)
            done = board.attempt(edits, goal=lambda one: (one.forest(), one.lamps()) == wanted)
            self.assertEqual(done, states.index(wanted))
            self.assertEqual(board_states(board), states[:done + 1])
            self.assertEqual(board.edits(), tuple(edits[:done]))


class RaisingTest(AttemptCase):
    def check_raises(self, error, goal, edits=BACK_AND_FORTH):
        """This very error comes out of attempt, and the board is as before."""
        board = board_with_edits()
        before = snapshot(board)
        caught = None
        try:
            board.attempt(edits, goal=goal)
        except BaseException as found:
            caught = found
        self.assertIs(caught, error)
        self.assertEqual(snapshot(board), before)
        self.check_not_busy(board)
        self.assertEqual(board.attempt(BACK_AND_FORTH, goal=lambda one: one.lamps() == (2,)), 2)

    def test_errors_of_the_package(self):
        for error in PACKAGE_ERRORS:
            for number in range(5):
                self.check_raises(error, raising_at(number, error))

    def test_fields_of_errors_stay(self):
        for error in PACKAGE_ERRORS:
            before = dict(vars(error))
            self.check_raises(error, raising_at(2, error))
            self.assertEqual(vars(error), before)

    def test_other_exceptions(self):
        for error in OTHER_ERRORS:
            for number in range(5):
                self.check_raises(error, raising_at(number, error))

    def test_no_edits(self):
        for error in PACKAGE_ERRORS + OTHER_ERRORS:
            self.check_raises(error, raising_at(0, error), edits=[])

    def test_a_value_whose_truth_raises_an_error(self):
        for error in (NoVertex(1), OtherError(), Stop()):
            for number in range(5):
                self.check_raises(error, accepting_at(number, [], Unclear(error)))

    def test_an_error_of_another_board(self):
        def goal(board):
            Board(PATH_3, (0,)).light(9)

        board = board_with_edits()
        before = snapshot(board)
        self.assertEqual(outcome(board.attempt, BACK_AND_FORTH, goal=goal), ("NoVertex", 9))
        self.assertEqual(snapshot(board), before)

    def test_an_error_of_a_query(self):
        board = board_with_edits()
        before = snapshot(board)
        for goal, expected in (
            (lambda one: one.lamps(version=4) == one.lamps(version=5), ("NoVersion", 4)),
            (lambda one: len(one) == 5 and one.reaches((0, 1)), ("BadSetting",)),
            (lambda one: len(one) == 6 and one.rigid(version=True), ("NoVersion", True)),
        ):
            self.assertEqual(repr(outcome(board.attempt, BACK_AND_FORTH, goal=goal)), repr(expected))
            self.assertEqual(snapshot(board), before)
            self.check_not_busy(board)


def busy_calls(board):
    """Calls that must raise Busy while goal runs, with right values and with wrong ones."""
    calls = [(board.undo, ())]
    for name, many in VALUE_COUNTS.items():
        for value in (0, 1, 2, 9, None, True, "x", [0], (0,), {"a": 1}):
            calls.append((getattr(board, name), [value] * many))
    for edits in ([], (), BACK_AND_FORTH, [("dim", 0)], None, 5, "x", [None], [("undo",)], [("dim", 0)] * 21):
        calls.append((board.attempt, [edits]))
    return calls


class BusyTest(AttemptCase):
    def check_busy(self, board):
        before = snapshot(board)
        for function, values in busy_calls(board):
            self.assertEqual(outcome(function, *values), ("Busy",), (function, values))
        self.assertEqual(outcome(board.attempt, [], goal=lambda one: True), ("Busy",))
        self.assertEqual(snapshot(board), before)

    def test_each_method_at_each_call(self):
        calls = []

        def goal(board):
            self.check_busy(board)
            calls.append(len(board))

        board = board_with_edits()
        self.assertEqual(board.attempt(BACK_AND_FORTH, goal=goal), 4)
        self.assertEqual(calls, [2, 3, 4, 5, 6])
        self.assertEqual(board.edits()[2:], tuple(BACK_AND_FORTH))
        self.check_not_busy(board)

    def test_before_every_other_error(self):
        full = Board(PATH_3, (0,))
        for _ in range(3):
            full.attempt([("dim", 0), ("light", 0)] * 10)
        for board in (full, Board((0, ()), ()), Board((12, ()), ())):
            calls = []

            def goal(one):
                calls.append(one)
                self.check_busy(one)

            self.assertEqual(board.attempt([], goal=goal), 0)
            self.assertEqual(len(calls), 1)

    def test_the_class_of_the_error(self):
        def goal(board):
            with self.assertRaises(Busy) as caught:
                board.undo()
            self.assertIs(type(caught.exception), Busy)
            self.assertEqual(vars(caught.exception), {})

        board_with_edits().attempt([], goal=goal)

    def test_busy_that_is_not_caught(self):
        for edit in (("light", 2), ("dim", 0), ("slide", 0, 1), ("grow", 0), ("join", 0, 1), ("cut", 0, 1)):
            board = board_with_edits()
            self.check_fails(Busy, (), board, BACK_AND_FORTH, goal=lambda one: make(one, edit))
            self.check_fails(Busy, (), board, BACK_AND_FORTH, goal=lambda one: len(one) == 5 and make(one, edit))
        self.check_fails(Busy, (), board_with_edits(), BACK_AND_FORTH, goal=lambda one: one.undo())
        self.check_fails(Busy, (), board_with_edits(), [], goal=lambda one: one.attempt([]))

    def test_not_busy_afterwards(self):
        board = board_with_edits()
        board.attempt(BACK_AND_FORTH[:1], goal=lambda one: False)
        self.assertEqual([board.slide(1, 2), board.undo(), board.attempt([("dim", 1)])], [4, 3, 1])
        board.attempt([("light", 2)], goal=lambda one: True)
        self.assertEqual(board.light(2), 5)
        self.check_fails(Rejected, (0,), board, [("light", 2)], goal=lambda one: False)
        self.assertEqual(board.undo(), 4)

    def test_without_a_goal_nothing_is_busy(self):
        board = board_with_edits()
        self.assertEqual([board.attempt(BACK_AND_FORTH), board.attempt(BACK_AND_FORTH), board.undo()], [4, 4, 9])

    def test_other_boards_can_be_edited(self):
        other = Board(PATH_3, ())

        def goal(board):
            other.light(0)
            other.attempt([("dim", 0), ("grow", None)], goal=lambda one: outcome(board.undo) != ("Busy",))
            self.assertEqual(outcome(board.light, 2), ("Busy",))

        board = board_with_edits()
        self.assertEqual(board.attempt(BACK_AND_FORTH[:3], goal=goal), 3)
        self.assertEqual((other.lamps(), len(other), other.forest()[0]), ((), 12, 7))
        self.assertEqual(len(board), 5)

    def test_an_equal_board_can_be_edited(self):
        def goal(board):
            other = Board(board.forest(), board.lamps())
            self.assertEqual(other, board)
            self.assertEqual([other.grow(None), other.undo(), other.attempt([])], [1, 0, 0])

        self.assertEqual(board_with_edits().attempt(BACK_AND_FORTH, goal=goal), 4)

    def test_the_first_board_stays_busy_behind_the_goal_of_a_second_one(self):
        first, second = board_with_edits(), board_with_edits()

        def inner(board):
            self.assertEqual((outcome(first.undo), outcome(second.undo)), (("Busy",), ("Busy",)))

        def outer(board):
            second.attempt(BACK_AND_FORTH, goal=inner)
            self.assertEqual(outcome(first.undo), ("Busy",))
            self.assertEqual(second.dim(0) - second.undo(), 1)

        self.assertEqual(first.attempt(BACK_AND_FORTH, goal=outer), 4)
        self.assertEqual((len(first), len(second)), (6, 22))


class QueriesTest(AttemptCase):
    def test_they_see_the_edits_so_far(self):
        for number in range(500, 530):
            board, states, edits = drawn_board(number)
            more = drawn_edits(Random(number), *states[-1], 12)
            expected = states[:-1] + states_after(*states[-1], more)
            calls = []

            def goal(one):
                version = len(states) - 1 + len(calls)
                calls.append(version)
                forest, lamps = expected[version]
                self.assertEqual((one.forest(), one.lamps(), len(one)), (forest, lamps, version))
                self.assertEqual(one.rigid(), greatest_lock(forest, lamps))
                self.assertEqual(one.normal(), normal_setting(forest, lamps))
                self.assertEqual(one.edits(), tuple((edits + more)[:version]))
                self.assertEqual(board_states(one), expected[:version + 1])
                self.assertEqual(outcome(one.lamps, version=version + 1), ("NoVersion", version + 1))
                self.assertEqual(one, Board(forest, lamps))
                self.assertTrue(str(one).endswith(f"{len(lamps)} lamps, {version} edits"))
                self.assertEqual(one.reaches(()), find_certificate(forest, lamps, ()))

            self.assertEqual(board.attempt(more, goal=goal), 12)
            self.assertEqual(len(calls), 13)

    def test_an_undone_edit_is_not_seen_later(self):
        board = board_with_edits()
        before = snapshot(board)
        self.check_fails(Rejected, (2,), board, BACK_AND_FORTH[:2] + [("dim", 0)], goal=lambda one: False)
        self.assertEqual(snapshot(board), before)
        self.assertEqual(outcome(board.forest, version=3), ("NoVersion", 3))


class ChangedListTest(AttemptCase):
    def test_by_the_goal(self):
        for change in (
            lambda edits: edits.clear(), lambda edits: edits.append(("dim", 9)), lambda edits: edits.reverse(),
            lambda edits: edits.__setitem__(-1, None), lambda edits: edits.extend([("grow", None)] * 30),
        ):
            edits = list(BACK_AND_FORTH)
            board = board_with_edits()
            self.assertEqual(board.attempt(edits, goal=lambda one: change(edits) if edits else None), 4)
            self.assertEqual(board.edits()[2:], tuple(BACK_AND_FORTH))
            self.assertEqual(board.lamps(), (0,))

    def test_filled_by_the_goal(self):
        edits = []
        board = board_with_edits()
        self.assertEqual(board.attempt(edits, goal=lambda one: edits.extend(BACK_AND_FORTH)), 0)
        self.assertEqual(len(board), 2)

    def test_later(self):
        edits = list(BACK_AND_FORTH)
        board = board_with_edits()
        board.attempt(edits, goal=lambda one: False)
        edits[:] = [("grow", None)]
        self.assertEqual(board.edits()[2:], tuple(BACK_AND_FORTH))
        self.assertEqual([board.undo(), board.lamps()], [5, (1,)])

    def test_undone_one_by_one(self):
        board = board_with_edits()
        board.attempt(BACK_AND_FORTH, goal=lambda one: len(one) == 5)
        self.assertEqual([board.undo(), board.lamps()], [4, (2,)])
        self.assertEqual([board.undo(), board.lamps()], [3, (1,)])
        self.assertEqual([board.undo(), board.lamps()], [2, (0,)])
        self.assertEqual([board.undo(), board.lamps()], [1, (1,)])
