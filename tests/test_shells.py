"""Shell and its commands ([15])."""

import re
import unittest
from random import Random

from tests.models import (
    SOME_FORESTS, VALUE_COUNTS, after_edit, drawn_board, edit_error, make, outcome, right_edits, snapshot,
)
from tests.samples import (
    BARE_12, LARGER_FORESTS, PATH_12, STAR_12, all_settings, odd_values, small_forests, steps_from,
)
from treelamps.boards import Board
from treelamps.errors import Rejected
from treelamps.reach import find_certificate
from treelamps.shells import Shell
from treelamps.slides import follow
from treelamps.texts import parse_forest, parse_slides

PATH_3 = (3, ((0, 1), (1, 2)))
PATH_4 = (4, ((0, 1), (1, 2), (2, 3)))
TWO_PATHS = (5, ((0, 1), (1, 2), (3, 4)))
KITE = (7, ((0, 1), (1, 2), (1, 3), (1, 5), (3, 4), (5, 6)))
UNKNOWN = "unknown command"
QUERIES = ("forest", "lamps", "rigid", "normal", "moves")
NUMBER = "(?:0|[1-9][0-9]?)"
SIGNS = tuple("0123456789 >-:+\n\tx\uff11\u00b2") + (" 0", "0 ", "none", " none", "00", "-1", "100", "A", "undo")
COMMANDS = ("light 2", "dim 0", "slide 0 1", "grow 11", "join 0 10", "cut 1 2", "undo", "forest", "lamps", "rigid",
            "normal", "moves", "plan none", "plan 0 2", "plan 12")


def list_text(values):
    return " ".join(str(value) for value in values) or "none"


def pairs_text(pairs, sign):
    return " ".join(f"{a}{sign}{b}" for a, b in pairs) or "none"


def query_answer(forest, lamps, board, word):
    if word == "forest":
        return f"{forest[0]}: " + pairs_text(forest[1], "-")
    if word == "moves":
        return pairs_text(sorted(slide for slide, after in steps_from(forest, lamps)), ">")
    return list_text({"lamps": board.lamps, "rigid": board.rigid, "normal": board.normal}[word]())


def plan_answer(forest, lamps, text):
    setting = () if text == "none" else tuple(int(word) for word in text.split(" "))
    if setting not in all_settings(forest):
        return "error BadSetting"
    kind, *fields = find_certificate(forest, lamps, setting)
    if kind == "plan":
        return "plan " + pairs_text(fields[0], ">")
    return f"lock {fields[0]} {list_text(fields[1])}" if kind == "lock" else "count " + list_text(fields[1])


def answer_by_words(board, line):
    """The answer to a line, which does not change the board here."""
    forest, lamps = board.forest(), board.lamps()
    if line in QUERIES:
        return query_answer(forest, lamps, board, line)
    if line == "undo":
        return f"ok {len(board) - 1}" if len(board) else "error NothingToUndo"
    if re.fullmatch(f"plan (none|{NUMBER}( {NUMBER})*)", line):
        return plan_answer(forest, lamps, line.removeprefix("plan "))
    if not re.fullmatch(f"(light|dim|grow) {NUMBER}|(slide|join|cut) {NUMBER} {NUMBER}", line):
        return UNKNOWN
    if len(board) == 60:
        return "error TooManyEdits"
    name, *words = line.split(" ")
    error = edit_error(forest, lamps, (name, *[int(word) for word in words]))
    return f"ok {len(board) + 1}" if error is None else "error " + error[0]


def changed_lines(line):
    """The line with a character left out, replaced or put in, or words left out, doubled or exchanged."""
    for at in range(len(line) + 1):
        yield line[:at]
        yield line[:at] + line[at + 1:]
        for sign in SIGNS:
            yield line[:at] + sign + line[at:]
            yield line[:at] + sign + line[at + 1:]
    words = line.split(" ")
    for at in range(len(words)):
        for part in ([], [words[at]] * 2, ["none"], [""], words[at + 1:at + 2]):
            yield " ".join(words[:at] + part + words[at + 1:])


class ShellCase(unittest.TestCase):
    def check(self, shell, line, expected):
        self.assertEqual(repr(shell.execute(line)), repr(expected), line)

    def check_on(self, forest, lamps, line, expected):
        """The answer of a new board; an error or an unknown command leaves it as it is."""
        board = Board(forest, lamps)
        before = snapshot(board)
        self.check(Shell(board), line, expected)
        if not expected.startswith("ok"):
            self.assertEqual(snapshot(board), before, line)

    def check_line(self, board, line):
        """Any line, on any board."""
        expected = answer_by_words(board, line)
        before = snapshot(board)
        self.check(Shell(board), line, expected)
        if not expected.startswith("ok"):
            self.assertEqual(snapshot(board), before, line)
        return expected


class CommandsTest(ShellCase):
    def test_every_edit(self):
        for forest in small_forests(3):
            numbers = range(forest[0] + 1)
            lines = [f"{name} {v}" for name in ("light", "dim", "grow") for v in numbers]
            lines += [f"{name} {u} {v}" for name in ("slide", "join", "cut") for u in numbers for v in numbers]
            for lamps in all_settings(forest):
                for line in lines:
                    board = Board(forest, lamps)
                    if self.check_line(board, line) == "ok 1":
                        name, *words = line.split(" ")
                        edit = (name, *[int(word) for word in words])
                        self.assertEqual(repr(board.edits()), repr((edit,)))
                        self.assertEqual((board.forest(), board.lamps()), after_edit(forest, lamps, edit))

    def test_queries(self):
        for forest in SOME_FORESTS:
            settings = all_settings(forest)
            for lamps in settings[::len(settings) // 6 + 1]:
                board = Board(forest, lamps)
                for line in QUERIES:
                    self.check_line(board, line)
                self.assertEqual(parse_forest(Shell(board).execute("forest")), forest)

    def test_drawn_commands_one_after_another(self):
        for number in range(60):
            draw = Random(number)
            board, states, edits = drawn_board(number)
            for _ in range(40):
                right = [edit for edit in right_edits(board.forest(), board.lamps()) if None not in edit]
                edit = draw.choice(right or [("dim", 0)])
                lines = [" ".join(str(word) for word in edit), "undo", draw.choice(QUERIES),
                         f"{draw.choice(list(VALUE_COUNTS))} {draw.randrange(13)}"]
                line = draw.choice(lines)
                before = len(board)
                answer = self.check_line(board, line)
                if answer.startswith("ok"):
                    self.assertEqual(answer, f"ok {len(board)}")
                    self.assertEqual(len(board), before - 1 if line == "undo" else before + 1)

    def test_known_answers(self):
        shell = Shell(Board(TWO_PATHS, (0, 4)))
        for line, expected in (
            ("forest", "5: 0-1 1-2 3-4"), ("lamps", "0 4"), ("rigid", "none"), ("normal", "0 3"),
            ("moves", "0>1 4>3"), ("light 2", "ok 1"), ("rigid", "0 2"), ("moves", "4>3"), ("dim 4", "ok 2"),
            ("moves", "none"), ("grow 2", "ok 3"), ("forest", "6: 0-1 1-2 2-5 3-4"), ("slide 2 5", "ok 4"),
            ("join 3 1", "ok 5"), ("cut 2 1", "ok 6"), ("forest", "6: 0-1 1-3 2-5 3-4"), ("undo", "ok 5"),
            ("lamps", "0 5"), ("undo", "ok 4"), ("undo", "ok 3"), ("lamps", "0 2"),
        ):
            self.check(shell, line, expected)

    def test_nothing_there(self):
        for line, expected in (
            ("forest", "0: none"), ("lamps", "none"), ("rigid", "none"), ("normal", "none"), ("moves", "none"),
            ("plan none", "plan none"), ("plan 0", "error BadSetting"), ("undo", "error NothingToUndo"),
            ("light 0", "error NoVertex"), ("grow 0", "error NoVertex"),
        ):
            self.check_on((0, ()), (), line, expected)

    def test_answers_with_two_digits(self):
        shell = Shell(Board(PATH_12, (9, 11)))
        self.check(shell, "lamps", "9 11")
        self.check(shell, "moves", "9>8")
        self.check(shell, "slide 9 8", "ok 1")
        self.check(shell, "moves", "8>7 8>9 11>10")
        for number in range(2, 12):
            self.check(shell, "slide 11 10" if number % 2 == 0 else "slide 10 11", f"ok {number}")


class ErrorsTest(ShellCase):
    def test_each_error(self):
        for forest, lamps, line, expected in (
            (PATH_3, (0,), "light 3", "NoVertex"), (PATH_3, (0,), "light 99", "NoVertex"),
            (PATH_3, (0,), "light 0", "Lit"), (PATH_3, (0,), "light 1", "Blocked"),
            (PATH_3, (0,), "dim 1", "NoLamp"), (PATH_3, (0,), "dim 99", "NoLamp"),
            (PATH_3, (0,), "slide 1 0", "NoLamp"), (PATH_3, (0,), "slide 0 2", "NotAdjacent"),
            (PATH_3, (0, 2), "slide 0 1", "Blocked"), (PATH_3, (0,), "grow 3", "NoVertex"),
            (BARE_12, (), "grow 0", "TooManyVertices"), (BARE_12, (), "grow 12", "TooManyVertices"),
            (PATH_3, (), "join 0 2", "Cycle"), (PATH_3, (), "join 1 1", "Cycle"), (PATH_3, (), "join 0 3", "NoVertex"),
            (TWO_PATHS, (0, 4), "join 0 4", "LampsMeet"), (PATH_3, (), "cut 0 2", "NotAdjacent"),
            (PATH_3, (), "cut 3 0", "NoVertex"), (PATH_3, (), "undo", "NothingToUndo"),
            (PATH_3, (0,), "plan 0 1", "BadSetting"), (PATH_3, (0,), "plan 3", "BadSetting"),
        ):
            self.check_on(forest, lamps, line, "error " + expected)

    def test_too_many_edits(self):
        board = Board(TWO_PATHS, (0, 4))
        shell = Shell(board)
        for number in range(1, 61):
            self.check(shell, "dim 0" if number % 2 else "light 0", f"ok {number}")
        for line in ("light 2", "dim 0", "slide 0 1", "grow 0", "join 0 4", "cut 0 1", "light 99", "cut 99 99"):
            self.check(shell, line, "error TooManyEdits")
        self.assertEqual(len(board), 60)
        self.check(shell, "undo", "ok 59")
        self.check(shell, "light 2", "ok 60")

    def test_every_error_is_met_by_drawn_lines(self):
        names = set()
        for number in range(80):
            draw = Random(number)
            board, states, edits = drawn_board(number)
            for _ in range(60):
                name, many = draw.choice(list(VALUE_COUNTS.items()))
                line = " ".join([name] + [str(draw.randrange(14)) for _ in range(many)])
                names.add(self.check_line(board, line).partition(" ")[2])
        self.assertLessEqual({"NoVertex", "Lit", "Blocked", "NoLamp", "NotAdjacent", "TooManyVertices", "Cycle"}, names)


class PlanTest(ShellCase):
    def check_plan(self, forest, lamps, setting):
        board = Board(forest, lamps)
        line = "plan " + list_text(setting)
        answer = self.check_line(board, line)
        if answer.startswith("plan"):
            self.assertEqual(follow(forest, lamps, parse_slides(answer.removeprefix("plan "))), setting)

    def test_every_pair(self):
        for forest in small_forests(4)[::2]:
            for lamps in all_settings(forest):
                for setting in all_settings(forest):
                    self.check_plan(forest, lamps, setting)

    def test_larger_forests(self):
        for forest in LARGER_FORESTS:
            settings = all_settings(forest)
            for lamps in settings[::len(settings) // 4 + 1]:
                for setting in settings[::len(settings) // 6 + 1]:
                    self.check_plan(forest, lamps, setting)

    def test_each_kind(self):
        for forest, lamps, line, expected in (
            (PATH_3, (0,), "plan 0", "plan none"), (PATH_3, (), "plan none", "plan none"),
            (PATH_3, (0, 2), "plan 1", "lock 0 0 2"),
            (PATH_3, (0, 2), "plan none", "lock 0 0 2"), (PATH_3, (), "plan 0 2", "lock 1 0 2"),
            (PATH_4, (0,), "plan 0 2", "count 0 1 2 3"), (PATH_4, (0,), "plan none", "count 0 1 2 3"),
            (KITE, (0, 2, 3), "plan 0 2 5", "count 3 4"), (KITE, (0, 2, 5), "plan 0 2 5 4", "error BadSetting"),
            (BARE_12, (9,), "plan 10 11", "lock 0 9"), (BARE_12, (), "plan 9 10 11", "lock 1 9 10 11"),
            (STAR_12, (1, 11), "plan 1 2", "lock 0 1 11"),
        ):
            self.check_on(forest, lamps, line, expected)

    def test_lists_that_are_no_settings(self):
        for text in ("0 1", "1 0", "2 0", "0 0", "3", "99", "0 3", "0 1 2", "0 2 2", " ".join(["0"] * 900),
                     " ".join(str(number) for number in range(100))):
            self.check_on(PATH_3, (0,), "plan " + text, "error BadSetting")

    def test_no_lists(self):
        for text in ("", " ", "  ", "  0", " 0 ", " 0  2", " none ", " none 0", " 0 none", " none none", " None", " 00",
                     " 01", " 0 02", " -1", " +1", " 100", " 0 100", " x", " 0,2", " 0\n", "\n0", " 0\n2", " (0, 2)",
                     "0", " \uff10", " \u00b2", " 0x1", " 1_0", "s 0", " ()"):
            self.check_on(PATH_3, (0,), "plan" + text, UNKNOWN)
        for line in (" plan 0", "Plan 0", "PLAN 0", "0 plan", "plan 0\nplan 0"):
            self.check_on(PATH_3, (0,), line, UNKNOWN)

    def test_the_present_lamps(self):
        board = Board(PATH_3, (0,))
        shell = Shell(board)
        for line in ("slide 0 1", "slide 1 2", "undo"):
            self.assertTrue(shell.execute(line).startswith("ok"))
            self.assertEqual(self.check_line(board, "plan 2").partition(" ")[0], "plan")
            slides = parse_slides(shell.execute("plan 2").removeprefix("plan "))
            self.assertEqual(follow(PATH_3, board.lamps(), slides), (2,))
        self.check(shell, "plan 1", "plan none")
        self.check(shell, "cut 1 2", "ok 2")
        self.check(shell, "plan 2", "lock 1 2")


class UnknownTest(ShellCase):
    def test_values_that_are_no_texts(self):
        board = Board(PATH_3, (0,))
        before = snapshot(board)
        for value in odd_values() + [0, 1, ["undo"], ("lamps",), {"lamps": 1}, [["light", 0]], board]:
            if not isinstance(value, str):
                self.check(Shell(board), value, UNKNOWN)
        self.assertEqual(snapshot(board), before)

    def test_other_lines(self):
        for line in ("", " ", "\n", "  ", "help", "exit", "len", "str", "edits", "reaches", "reaches 0", "attempt",
                     "version", "moves 0", "lamps 0", "forest 0", "undo 1", "undo 0", "none", "0", "0 1", "lamps none",
                     "rigid 0", "normal none", "light none", "grow none", "grow None", "grow", "x" * 2000):
            self.check_on(PATH_3, (0,), line, UNKNOWN)

    def test_too_few_or_too_many_words(self):
        for name, many in VALUE_COUNTS.items():
            for count in range(5):
                if count != many:
                    self.check_on(PATH_3, (0,), " ".join([name] + ["1"] * count), UNKNOWN)

    def test_wrong_numbers(self):
        for word in ("", "00", "01", "-1", "-0", "+1", "100", "1.0", "1e1", "x", "none", "None", "True", "1\n", "\n1",
                     "\uff11", "\u0661", "\u00b2", "0x1", "1_0", "1:", "1>2", "(1)", "'1'"):
            for line in (f"light {word}", f"dim {word}", f"grow {word}", f"slide {word} 1", f"slide 0 {word}",
                         f"join {word} 1", f"join 0 {word}", f"cut {word} 1", f"cut 0 {word}"):
                self.check_on(PATH_3, (0,), line, UNKNOWN)

    def test_other_letters_and_spaces(self):
        for line in COMMANDS:
            word = line.partition(" ")[0]
            for other in (line.upper(), line.capitalize(), " " + line, line + " ", line + "\n", "\n" + line,
                          line + "\t", line.replace(word, word[:-1]), line.replace(word, word + "s"), line + "\nundo"):
                self.check_on(PATH_12, (0,), other, UNKNOWN)
            if " " in line:
                for other in (line.replace(" ", "  ", 1), line.replace(" ", "\t", 1), line.replace(" ", "\n", 1)):
                    self.check_on(PATH_12, (0,), other, UNKNOWN)

    def test_changed_lines(self):
        board = Board((11, ((0, 1), (1, 2), (3, 4))), (0, 4))
        for line in COMMANDS:
            for other in sorted(set(changed_lines(line))):
                if self.check_line(board, other).startswith("ok"):
                    board = Board((11, ((0, 1), (1, 2), (3, 4))), (0, 4))

    def test_lines_changed_twice(self):
        draw = Random(4)
        for line in COMMANDS:
            lines = sorted(set(changed_lines(line)))
            for first in draw.sample(lines, 10):
                seconds = sorted(set(changed_lines(first)))
                for other in draw.sample(seconds, min(30, len(seconds))):
                    self.check_line(Board((11, ((0, 1), (1, 2), (3, 4))), (0, 4)), other)


class BoardsAndShellsTest(ShellCase):
    def test_this_very_board(self):
        board = Board(PATH_3, (0,))
        shell = Shell(board)
        self.check(shell, "slide 0 1", "ok 1")
        self.assertEqual(board.lamps(), (1,))
        board.slide(1, 2)
        self.check(shell, "lamps", "2")
        self.check(shell, "undo", "ok 1")
        self.assertEqual(board.edits(), (("slide", 0, 1),))

    def test_two_shells_on_one_board(self):
        board = Board(PATH_3, (0,))
        first, second = Shell(board), Shell(board)
        self.check(first, "dim 0", "ok 1")
        self.check(second, "light 2", "ok 2")
        self.check(first, "lamps", "2")
        self.check(second, "undo", "ok 1")
        self.check(first, "undo", "ok 0")
        self.check(second, "undo", "error NothingToUndo")
        self.check(second, "lamps", "0")

    def test_two_boards(self):
        first, second = Shell(Board(PATH_3, (0,))), Shell(Board(PATH_3, (0,)))
        self.check(first, "dim 0", "ok 1")
        self.check(second, "lamps", "0")

    def test_while_goal_runs(self):
        board = Board(PATH_3, (0,))
        shell, other = Shell(board), Shell(Board(PATH_3, ()))
        seen = []

        def goal(one):
            for line in ("light 2", "light 9", "dim 0", "slide 0 1", "grow 0", "join 0 1", "cut 0 1", "undo"):
                self.check(shell, line, "error Busy")
            for line in ("plan", "light", "attempt", "undo 1", "light x"):
                self.check(shell, line, UNKNOWN)
            self.check(shell, "plan 0 1", "error BadSetting")
            self.check(shell, "plan 1", answer_by_words(one, "plan 1"))
            for line in QUERIES:
                self.check(shell, line, answer_by_words(one, line))
            seen.append(shell.execute("lamps"))
            self.check(other, "light 0" if len(one) % 2 == 0 else "dim 0", f"ok {len(one) + 1}")

        self.assertEqual(board.attempt([("slide", 0, 1), ("grow", 1), ("slide", 1, 2)], goal=goal), 3)
        self.assertEqual(seen, ["0", "1", "1", "2"])
        self.check(shell, "undo", "ok 2")
        self.check(shell, "light 99", "error NoVertex")

    def test_after_a_rejected_attempt(self):
        board = Board(PATH_3, (0,))
        self.assertRaises(Rejected, board.attempt, [("dim", 0), ("dim", 0)], goal=lambda one: False)
        self.check(Shell(board), "dim 0", "ok 1")

    def test_equal_lines_have_equal_answers(self):
        for number in range(30):
            board, states, edits = drawn_board(number)
            for line in QUERIES + ("plan none", "plan 0", "plan 0 2", "light 99", "nothing"):
                first = Shell(board).execute(line)
                self.assertEqual(Shell(board).execute(line), first)
                self.assertEqual(Shell(Board(*states[-1])).execute(line), first)

    def test_answers_are_texts(self):
        board = Board(PATH_12, (0, 2))
        for line in COMMANDS + ("", "x", "plan 11 12"):
            self.assertIs(type(Shell(board).execute(line)), str)
        self.assertEqual(outcome(make, board, ("dim", 9)), ("NoLamp", 9))
