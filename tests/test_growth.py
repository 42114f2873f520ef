"""attach_vertex, add_edge, remove_edge, rename_vertices and side_by_side ([11])."""

import unittest
from itertools import permutations

from tests.samples import (
    BARE_12, CATERPILLAR_12, LARGE_FORESTS, LARGER_FORESTS, MIDDLE_FORESTS, PATH_12, STAR_12, TREES_10, TREES_12,
    all_settings, odd_numbers, odd_values, renamed, small_forests, touches, walk,
)
from treelamps.errors import Cycle, NotAdjacent, NoVertex, TooManyVertices
from treelamps.forests import is_forest, is_setting, path_between
from treelamps.growth import add_edge, attach_vertex, remove_edge, rename_vertices, side_by_side

EMPTY = (0, ())
ONE = (1, ())
TWO = (2, ((0, 1),))
PATH_3 = (3, ((0, 1), (1, 2)))
SOME_FORESTS = tuple(small_forests(4)) + LARGER_FORESTS


def no_vertices(n):
    """Values that are no vertices of a forest with n vertices: None and bools among them, and the number n."""
    return odd_values() + odd_numbers(n) + ["2", (0,), [0], {"vertex": 0}]


def with_edges(n, edges):
    return (n, tuple(sorted(edges)))


class GrowthTest(unittest.TestCase):
    def check_forest(self, result, expected):
        self.assertEqual(result, expected)
        self.assertIs(is_forest(result), True)

    def check_error(self, kind, field, function, *arguments):
        """The error is of exactly this class and has exactly this field, the very same value where it is passed on."""
        with self.assertRaises(kind) as caught:
            function(*arguments)
        self.assertIs(type(caught.exception), kind)
        (found,) = vars(caught.exception).values()
        self.assertEqual((type(found), found), (type(field), field))
        return found

    def check_no_vertex(self, value, function, *arguments):
        self.assertIs(self.check_error(NoVertex, value, function, *arguments), value)


class AttachTest(GrowthTest):
    def test_every_vertex(self):
        for forest in small_forests(4) + list(MIDDLE_FORESTS):
            n, edges = forest
            for vertex in range(n):
                self.check_forest(attach_vertex(forest, vertex), with_edges(n + 1, edges + ((vertex, n),)))

    def test_edges_ascend(self):
        self.check_forest(attach_vertex(PATH_3, 0), (4, ((0, 1), (0, 3), (1, 2))))
        self.check_forest(attach_vertex(PATH_3, 1), (4, ((0, 1), (1, 2), (1, 3))))

    def test_none(self):
        for forest in small_forests(4) + list(MIDDLE_FORESTS):
            self.check_forest(attach_vertex(forest, None), (forest[0] + 1, forest[1]))

    def test_no_vertices_and_one(self):
        self.check_forest(attach_vertex(EMPTY, None), ONE)
        self.check_forest(attach_vertex(ONE, 0), TWO)
        self.check_no_vertex(0, attach_vertex, EMPTY, 0)
        self.check_no_vertex(1, attach_vertex, ONE, 1)

    def test_up_to_twelve(self):
        forest = EMPTY
        for n in range(12):
            forest = attach_vertex(forest, n - 1 if n else None)
        self.check_forest(forest, PATH_12)
        self.check_error(TooManyVertices, 12, attach_vertex, forest, 11)

    def test_too_many_vertices_first(self):
        for forest in LARGE_FORESTS + (CATERPILLAR_12,):
            for value in no_vertices(12) + [0, 5, 11]:
                self.check_error(TooManyVertices, 12, attach_vertex, forest, value)

    def test_no_vertex(self):
        for forest in (EMPTY, ONE, TWO, PATH_3, TREES_10):
            for value in no_vertices(forest[0]):
                if value is not None:
                    self.check_no_vertex(value, attach_vertex, forest, value)

    def test_the_new_vertex_is_dark(self):
        for forest in small_forests(4):
            for setting in all_settings(forest):
                for vertex in [None, *range(forest[0])]:
                    self.assertIs(is_setting(attach_vertex(forest, vertex), setting), True)


class AddEdgeTest(GrowthTest):
    def check_pair(self, forest, first, second):
        if second in walk(forest[1], first):
            path = path_between(forest, first, second)
            self.assertEqual((path[0], path[-1]), (first, second))
            self.check_error(Cycle, path, add_edge, forest, first, second)
        else:
            edge = (min(first, second), max(first, second))
            self.check_forest(add_edge(forest, first, second), with_edges(forest[0], forest[1] + (edge,)))

    def test_every_pair_in_both_orders(self):
        for forest in SOME_FORESTS:
            for first in range(forest[0]):
                for second in range(forest[0]):
                    self.check_pair(forest, first, second)

    def test_known_ones(self):
        self.check_forest(add_edge((3, ((1, 2),)), 2, 0), (3, ((0, 2), (1, 2))))
        self.check_forest(add_edge((3, ((0, 1),)), 1, 2), PATH_3)
        self.check_forest(add_edge(BARE_12, 11, 0), (12, ((0, 11),)))
        self.check_error(Cycle, (0, 1), add_edge, TWO, 0, 1)
        self.check_error(Cycle, (1, 0), add_edge, TWO, 1, 0)
        self.check_error(Cycle, tuple(range(11, -1, -1)), add_edge, PATH_12, 11, 0)
        self.check_error(Cycle, (8, 7, 5, 4), add_edge, TREES_12, 8, 4)

    def test_a_vertex_and_itself(self):
        for forest in SOME_FORESTS:
            for vertex in range(forest[0]):
                self.check_error(Cycle, (vertex,), add_edge, forest, vertex, vertex)

    def test_no_vertex(self):
        for forest in (ONE, TWO, BARE_12, PATH_12):
            for value in no_vertices(forest[0]):
                self.check_no_vertex(value, add_edge, forest, value, 0)
                self.check_no_vertex(value, add_edge, forest, 0, value)
                self.check_no_vertex(value, add_edge, forest, value, value)

    def test_the_first_one_that_is_no_vertex(self):
        for value in no_vertices(3):
            for other in (None, -1, "x", [3], (0, 1)):
                self.check_no_vertex(value, add_edge, PATH_3, value, other)
                self.check_no_vertex(other, add_edge, PATH_3, other, value)

    def test_no_vertices(self):
        for value in no_vertices(0) + [0, 1]:
            self.check_no_vertex(value, add_edge, EMPTY, value, 0)

    def test_bools_before_cycles(self):
        self.check_no_vertex(False, add_edge, TWO, False, 1)
        self.check_no_vertex(True, add_edge, TWO, 0, True)
        self.check_no_vertex(True, add_edge, (3, ()), True, 0)


class RemoveEdgeTest(GrowthTest):
    def check_pair(self, forest, first, second):
        if touches(forest, first, second):
            edges = set(forest[1]) - {(first, second), (second, first)}
            self.assertEqual(len(edges), len(forest[1]) - 1)
            self.check_forest(remove_edge(forest, first, second), with_edges(forest[0], edges))
        else:
            self.check_error(NotAdjacent, second, remove_edge, forest, first, second)

    def test_every_pair_in_both_orders(self):
        for forest in SOME_FORESTS:
            for first in range(forest[0]):
                for second in range(forest[0]):
                    self.check_pair(forest, first, second)

    def test_and_adding_it_again(self):
        for forest in SOME_FORESTS:
            for a, b in forest[1]:
                self.assertEqual(add_edge(remove_edge(forest, a, b), b, a), forest)
                self.assertEqual(add_edge(remove_edge(forest, b, a), a, b), forest)

    def test_known_ones(self):
        self.check_forest(remove_edge(TWO, 1, 0), (2, ()))
        self.check_forest(remove_edge(STAR_12, 7, 0), (12, STAR_12[1][:6] + STAR_12[1][7:]))
        self.check_error(NotAdjacent, 2, remove_edge, PATH_3, 0, 2)
        self.check_error(NotAdjacent, 0, remove_edge, PATH_3, 2, 0)
        self.check_error(NotAdjacent, 0, remove_edge, ONE, 0, 0)

    def test_no_vertex(self):
        for forest in (ONE, TWO, BARE_12, PATH_12):
            for value in no_vertices(forest[0]):
                self.check_no_vertex(value, remove_edge, forest, value, 0)
                self.check_no_vertex(value, remove_edge, forest, 0, value)
                self.check_no_vertex(value, remove_edge, forest, value, value)

    def test_the_first_one_that_is_no_vertex(self):
        for value in no_vertices(3):
            for other in (None, -1, "x", [3], (0, 1)):
                self.check_no_vertex(value, remove_edge, PATH_3, value, other)
                self.check_no_vertex(other, remove_edge, PATH_3, other, value)

    def test_no_vertices(self):
        for value in no_vertices(0) + [0, 1]:
            self.check_no_vertex(value, remove_edge, EMPTY, value, 0)

    def test_bools_are_no_vertices(self):
        self.check_no_vertex(False, remove_edge, TWO, False, 1)
        self.check_no_vertex(True, remove_edge, TWO, 0, True)


class RenameTest(GrowthTest):
    def test_every_order(self):
        for forest in small_forests(4):
            for names in permutations(range(forest[0])):
                self.check_forest(rename_vertices(forest, names), renamed(forest, names))

    def test_there_and_back(self):
        names = (7, 2, 11, 0, 9, 4, 1, 10, 3, 8, 5, 6)
        back = tuple(names.index(vertex) for vertex in range(12))
        for forest in LARGE_FORESTS + (CATERPILLAR_12,):
            there = rename_vertices(forest, names)
            self.check_forest(there, renamed(forest, names))
            for a in range(12):
                for b in range(12):
                    self.assertIs(touches(there, names[a], names[b]), touches(forest, a, b))
            self.check_forest(rename_vertices(there, back), forest)

    def test_the_same_names(self):
        for forest in SOME_FORESTS:
            self.check_forest(rename_vertices(forest, tuple(range(forest[0]))), forest)

    def test_known_ones(self):
        self.check_forest(rename_vertices(EMPTY, ()), EMPTY)
        self.check_forest(rename_vertices(ONE, (0,)), ONE)
        self.check_forest(rename_vertices(TWO, (1, 0)), TWO)
        self.check_forest(rename_vertices(PATH_3, (1, 2, 0)), (3, ((0, 2), (1, 2))))
        self.check_forest(rename_vertices(PATH_12, tuple(range(11, -1, -1))), PATH_12)


class SideBySideTest(GrowthTest):
    def check(self, first, second):
        n = first[0]
        edges = first[1] + tuple((n + a, n + b) for a, b in second[1])
        self.check_forest(side_by_side(first, second), with_edges(n + second[0], edges))

    def test_small_ones(self):
        for first in small_forests(4):
            for second in small_forests(3):
                self.check(first, second)

    def test_none(self):
        self.check_forest(side_by_side(EMPTY, EMPTY), EMPTY)
        for forest in SOME_FORESTS:
            self.check_forest(side_by_side(forest, EMPTY), forest)
            self.check_forest(side_by_side(EMPTY, forest), forest)

    def test_up_to_twelve_and_more(self):
        for n in range(13):
            for more in range(13):
                first = (n, PATH_12[1][:max(0, n - 1)])
                second = (more, STAR_12[1][:max(0, more - 1)])
                if n + more <= 12:
                    self.check(first, second)
                else:
                    self.check_error(TooManyVertices, 12, side_by_side, first, second)

    def test_known_ones(self):
        self.check_forest(side_by_side(ONE, TWO), (3, ((1, 2),)))
        self.check_forest(side_by_side(TWO, ONE), (3, ((0, 1),)))
        self.check_forest(side_by_side(PATH_3, TWO), (5, ((0, 1), (1, 2), (3, 4))))
