"""Every example of DOC.md, as it stands there, and those of README.md."""

import doctest
import unittest
from pathlib import Path

README = Path(__file__).resolve().parent.parent / "README.md"

SECTION_1 = """
    >>> from treelamps.forests import is_forest
    >>> [is_forest((3, ((0, 1), (1, 2)))), is_forest((3, ((0, 1), (0, 2), (1, 2))))]
    [True, False]

    >>> from treelamps.forests import forest_error
    >>> forest_error((3, ((0, 1), (0, 2), (1, 2))))
    (2, 'cycle')

    >>> from treelamps.forests import is_setting
    >>> forest = (4, ((0, 1), (1, 2), (2, 3)))
    >>> [is_setting(forest, (0, 2)), is_setting(forest, (0, 1))]
    [True, False]

    >>> from treelamps.forests import neighbours_of
    >>> forest = (4, ((0, 1), (1, 2), (2, 3)))
    >>> neighbours_of(forest, 1)
    (0, 2)

    >>> from treelamps.forests import path_between
    >>> forest = (4, ((0, 1), (1, 2)))
    >>> [path_between(forest, 2, 0), path_between(forest, 0, 3)]
    [(2, 1, 0), None]

    >>> from treelamps.forests import parts_of
    >>> forest = (4, ((0, 1), (1, 2), (2, 3)))
    >>> parts_of(forest, (0, 2, 3))
    ((0,), (2, 3))
"""

SECTION_2 = """
    >>> from treelamps.slides import slide_lamp
    >>> forest = (4, ((0, 1), (1, 2), (2, 3)))
    >>> slide_lamp(forest, (0, 2), 0, 1)
    raises Blocked(2)

    >>> from treelamps.slides import possible_slides
    >>> forest = (4, ((0, 1), (1, 2), (2, 3)))
    >>> possible_slides(forest, (0, 2))
    ((2, 3),)

    >>> from treelamps.slides import follow
    >>> forest = (4, ((0, 1), (1, 2), (2, 3)))
    >>> follow(forest, (0, 2), ((2, 3), (0, 1)))
    (1, 3)

    >>> from treelamps.slides import backward
    >>> backward(((2, 3), (0, 1)))
    ((1, 0), (3, 2))
"""

SECTION_3 = """
    >>> from treelamps.locks import is_lock
    >>> forest = (3, ((0, 1), (1, 2)))
    >>> [is_lock(forest, (0, 2), (0, 2)), is_lock(forest, (0, 2), (0,))]
    [True, False]

    >>> from treelamps.locks import greatest_lock
    >>> forest = (4, ((0, 1), (1, 2), (2, 3)))
    >>> [greatest_lock(forest, (0, 2)), greatest_lock((3, ((0, 1), (1, 2))), (0, 2))]
    [(), (0, 2)]

    >>> from treelamps.locks import lamp_certificate
    >>> forest = (4, ((0, 1), (1, 2), (2, 3)))
    >>> lamp_certificate(forest, (0, 2), 0)
    ('moves', ((2, 3), (0, 1)))

    >>> from treelamps.locks import lamp_holds
    >>> forest = (4, ((0, 1), (1, 2), (2, 3)))
    >>> [lamp_holds(forest, (0, 2), 0, ('moves', ((2, 3), (0, 1)))), lamp_holds(forest, (0, 2), 0, ('rigid', (0, 2)))]
    [True, False]
"""

SECTION_4 = """
    >>> from treelamps.pieces import pieces_of
    >>> pieces_of((7, ((0, 1), (1, 2), (1, 3), (3, 4), (1, 5), (5, 6))), (0, 2))
    ((3, 4), (5, 6))

    >>> from treelamps.pieces import piece_counts
    >>> forest = (7, ((0, 1), (1, 2), (1, 3), (3, 4), (1, 5), (5, 6)))
    >>> piece_counts(forest, (0, 2, 3), (0, 2))
    (1, 0)
"""

SECTION_5 = """
    >>> from treelamps.reach import is_reachable
    >>> forest = (4, ((0, 1), (1, 2), (2, 3)))
    >>> [is_reachable(forest, (0, 2), (1, 3)), is_reachable(forest, (0,), (0, 2))]
    [True, False]

    >>> from treelamps.reach import find_plan
    >>> from treelamps.slides import follow
    >>> forest = (4, ((0, 1), (1, 2), (2, 3)))
    >>> follow(forest, (0, 2), find_plan(forest, (0, 2), (1, 3)))
    (1, 3)

    >>> from treelamps.reach import find_certificate
    >>> find_certificate((3, ((0, 1), (1, 2))), (0, 2), (0, 2))
    ('plan', ())

    >>> from treelamps.reach import certificate_holds
    >>> forest = (7, ((0, 1), (1, 2), (1, 3), (3, 4), (1, 5), (5, 6)))
    >>> certificate_holds(forest, (0, 2, 3), (0, 2, 5), ('count', (0, 2), (3, 4)))
    True

    >>> from treelamps.reach import normal_setting
    >>> forest = (4, ((0, 1), (1, 2), (2, 3)))
    >>> normal_setting(forest, (1, 3))
    (0, 2)
"""

SECTION_6 = """
    >>> from treelamps.classes import class_of
    >>> forest = (4, ((0, 1), (1, 2), (2, 3)))
    >>> class_of(forest, (0, 2))
    ((0, 2), (0, 3), (1, 3))

    >>> from treelamps.classes import settings_of
    >>> settings_of((3, ((0, 1), (1, 2))), 2)
    ((0, 2),)

    >>> from treelamps.classes import classes_of
    >>> classes_of((3, ((0, 1), (1, 2))), 1)
    (((0,), (1,), (2,)),)

    >>> from treelamps.classes import steps_between
    >>> forest = (4, ((0, 1), (1, 2), (2, 3)))
    >>> steps_between(forest, (0, 2), (1, 3))
    2

    >>> from treelamps.classes import shortest_plan
    >>> forest = (4, ((0, 1), (1, 2), (2, 3)))
    >>> shortest_plan(forest, (0, 2), (1, 3))
    ((2, 3), (0, 1))
"""

SECTION_7 = """
    >>> from treelamps.growth import attach_vertex
    >>> attach_vertex((2, ((0, 1),)), 1)
    (3, ((0, 1), (1, 2)))

    >>> from treelamps.growth import add_edge
    >>> add_edge((3, ((0, 1), (1, 2))), 0, 2)
    raises Cycle((0, 1, 2))

    >>> from treelamps.growth import remove_edge
    >>> remove_edge((3, ((0, 1), (1, 2))), 2, 1)
    (3, ((0, 1),))

    >>> from treelamps.growth import rename_vertices
    >>> rename_vertices((3, ((0, 1),)), (2, 0, 1))
    (3, ((0, 2),))

    >>> from treelamps.growth import side_by_side
    >>> side_by_side((2, ((0, 1),)), (2, ((0, 1),)))
    (4, ((0, 1), (2, 3)))
"""

SECTION_8 = """
    >>> from treelamps.boards import Board
    >>> str(Board((3, ((0, 1), (1, 2))), (0,)))
    '3 vertices, 2 edges, 1 lamps, 0 edits'

    >>> from treelamps.boards import Board
    >>> board = Board((2, ((0, 1),)), (0,))
    >>> board.light(1)
    raises Blocked(0)

    >>> from treelamps.boards import Board
    >>> board = Board((2, ((0, 1),)), (0,))
    >>> [board.slide(0, 1), board.lamps()]
    [1, (1,)]

    >>> from treelamps.boards import Board
    >>> board = Board((3, ((0, 1),)), (0, 2))
    >>> board.join(0, 2)
    raises LampsMeet

    >>> from treelamps.boards import Board
    >>> board = Board((2, ((0, 1),)), (0,))
    >>> [board.dim(0), board.undo(), board.lamps()]
    [1, 0, (0,)]

    >>> from treelamps.boards import Board
    >>> board = Board((3, ((0, 1), (1, 2))), (0,))
    >>> board.attempt([('slide', 0, 1), ('slide', 1, 2), ('slide', 2, 1)], goal=lambda one: one.lamps() == (2,))
    2

    >>> from treelamps.boards import Board
    >>> board = Board((1, ()), (0,))
    >>> [board.grow(0), board.forest(), board.forest(version=0)]
    [1, (2, ((0, 1),)), (1, ())]

    >>> from treelamps.boards import Board
    >>> board = Board((3, ((0, 1), (1, 2))), (0, 2))
    >>> [board.rigid(), board.normal()]
    [(0, 2), (0, 2)]

    >>> from treelamps.boards import Board
    >>> Board((2, ((0, 1),)), (0,)).reaches((0, 1))
    raises BadSetting

    >>> from treelamps.boards import Board
    >>> board = Board((2, ((0, 1),)), (0,))
    >>> [board.slide(0, 1), board.edits()]
    [1, (('slide', 0, 1),)]

    >>> from treelamps.boards import Board
    >>> [len(Board((0, ()), ())), Board((1, ()), (0,)) == Board((1, ()), ())]
    [0, False]
"""

SECTION_9 = """
    >>> from treelamps.texts import forest_text, slides_text
    >>> [forest_text((3, ((0, 1), (1, 2)))), slides_text(((2, 3), (0, 1)))]
    ['3: 0-1 1-2', '2>3 0>1']

    >>> from treelamps.texts import parse_forest
    >>> parse_forest('3: 0-1 1-1')
    raises BadText(2)

    >>> from treelamps.texts import parse_slides
    >>> parse_slides('2>3 0>1')
    ((2, 3), (0, 1))

    >>> from treelamps.boards import Board
    >>> from treelamps.shells import Shell
    >>> shell = Shell(Board((2, ((0, 1),)), (0,)))
    >>> shell.execute('lamps')
    '0'

    >>> from treelamps.boards import Board
    >>> from treelamps.shells import Shell
    >>> shell = Shell(Board((3, ((0, 1), (1, 2))), (0,)))
    >>> [shell.execute('plan 0 2'), shell.execute('slide 0 1'), shell.execute('slide 0 1'), shell.execute('plan 1')]
    ['lock 1 0 2', 'ok 1', 'error NoLamp', 'plan none']
"""


def answer_of(rows):
    """The repr of the last row, or the error that it raises, in the form that DOC.md uses."""
    names = {}
    for row in rows[:-1]:
        exec(row, names)
    try:
        return repr(eval(rows[-1], names))
    except (ValueError, LookupError) as error:
        fields = ", ".join(repr(field) for field in vars(error).values())
        return f"raises {error.__class__.__name__}" + (f"({fields})" if fields else "")


class ExamplesTest(unittest.TestCase):
    def check(self, section, many):
        examples = section.strip().split("\n\n")
        self.assertEqual(len(examples), many)
        for example in examples:
            *rows, expected = [line.strip() for line in example.splitlines()]
            with self.subTest(example=rows[-1]):
                self.assertEqual(answer_of([row.removeprefix(">>> ") for row in rows]), expected)

    def test_section_1(self):
        self.check(SECTION_1, 6)

    def test_section_2(self):
        self.check(SECTION_2, 4)

    def test_section_3(self):
        self.check(SECTION_3, 4)

    def test_section_4(self):
        self.check(SECTION_4, 2)

    def test_section_5(self):
        self.check(SECTION_5, 5)

    def test_section_6(self):
        self.check(SECTION_6, 5)

    def test_section_7(self):
        self.check(SECTION_7, 5)

    def test_section_8(self):
        self.check(SECTION_8, 11)

    def test_section_9(self):
        self.check(SECTION_9, 5)

    def test_readme(self):
        failed, tried = doctest.testfile(str(README), module_relative=False)
        self.assertEqual(failed, 0)
        self.assertGreater(tried, 0)
