"""Shells: boards by commands and answers that are texts."""

from treelamps.boards import is_edit
from treelamps.errors import BadSetting, Blocked, Busy, Cycle, LampsMeet, Lit, NoLamp, NotAdjacent, NothingToUndo
from treelamps.errors import NoVertex, TooManyEdits, TooManyVertices
from treelamps.slides import possible_slides
from treelamps.texts import forest_text, numbers_in, slides_text, vertices_in, vertices_text

UNKNOWN = "unknown command"


def edited_by_one(board, name, vertex):
    """Do the edit of this name, which takes one value, and return the new version."""
    if name == "light":
        return board.light(vertex)
    if name == "dim":
        return board.dim(vertex)
    return board.grow(vertex)


def edited_by_two(board, name, first, second):
    """Do the edit of this name, which takes two values, and return the new version."""
    if name == "slide":
        return board.slide(first, second)
    if name == "join":
        return board.join(first, second)
    return board.cut(first, second)


def edit_answer(board, name, numbers):
    """Return the answer to an edit."""
    if len(numbers) == 1:
        return f"ok {edited_by_one(board, name, numbers[0])}"
    return f"ok {edited_by_two(board, name, numbers[0], numbers[1])}"


def word_answer(board, word):
    """Return the answer to a command of one word."""
    if word == "undo":
        return f"ok {board.undo()}"
    if word == "forest":
        return forest_text(board.forest())
    if word == "lamps":
        return vertices_text(board.lamps())
    if word == "rigid":
        return vertices_text(board.rigid())
    if word == "normal":
        return vertices_text(board.normal())
    if word == "moves":
        return slides_text(possible_slides(board.forest(), board.lamps()))
    return UNKNOWN


def plan_answer(board, words):
    """Return the answer to a plan that is asked for by the words of a list of vertices."""
    setting = vertices_in(words)
    if setting is None:
        return UNKNOWN
    certificate = board.reaches(setting)
    kind = certificate[0]
    if kind == "plan":
        return f"plan {slides_text(certificate[1])}"
    if kind == "lock":
        return f"lock {certificate[1]} {vertices_text(certificate[2])}"
    return f"count {vertices_text(certificate[2])}"


def command_answer(board, words):
    """Return the answer to a line of these words."""
    name, *rest = words
    if name == "plan":
        return plan_answer(board, rest)
    numbers = numbers_in(rest)
    if numbers is None:
        return UNKNOWN
    if is_edit((name, *numbers)):
        return edit_answer(board, name, numbers)
    return UNKNOWN if numbers else word_answer(board, name)


class Shell:
    """Commands to one board."""

    def __init__(self, board):
        self.board = board

    def execute(self, line):
        """Return the answer to a line, any value."""
        if not isinstance(line, str):
            return UNKNOWN
        try:
            return command_answer(self.board, line.split(" "))
        except BadSetting:
            return "error BadSetting"
        except Blocked:
            return "error Blocked"
        except Busy:
            return "error Busy"
        except Cycle:
            return "error Cycle"
        except LampsMeet:
            return "error LampsMeet"
        except Lit:
            return "error Lit"
        except NoLamp:
            return "error NoLamp"
        except NotAdjacent:
            return "error NotAdjacent"
        except NothingToUndo:
            return "error NothingToUndo"
        except NoVertex:
            return "error NoVertex"
        except TooManyEdits:
            return "error TooManyEdits"
        except TooManyVertices:
            return "error TooManyVertices"
