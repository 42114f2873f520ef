"""is_forest and forest_error ([4])."""

import unittest
from itertools import product

from tests.samples import LARGE_FORESTS, PATH_12, STAR_12, has_cycle, odd_numbers, odd_values, small_forests
from treelamps.forests import forest_error, is_forest

TREES = (9, ((0, 1), (0, 2), (3, 4), (4, 5), (6, 7), (6, 8)))


def plain(value):
    return type(value) is int


def edges_error_by_words(n, edges):
    for index, edge in enumerate(edges):
        pair = type(edge) is tuple and len(edge) == 2 and all(plain(end) and end in range(n) for end in edge)
        if not pair or edge[0] >= edge[1]:
            return (index, "edge")
        if index and edge <= edges[index - 1]:
            return (index, "order")
        if has_cycle(edges[:index + 1]):
            return (index, "cycle")
    return None


class ForestTest(unittest.TestCase):
    def check(self, value, error):
        self.assertEqual(forest_error(value), error, value)
        self.assertIs(is_forest(value), error is None, value)

    def check_edges(self, edges, error, n=12):
        self.check((n, tuple(edges)), error)


class RightForests(ForestTest):
    def test_numbers_of_vertices(self):
        for n in range(13):
            self.check((n, ()), None)
            self.check((n, tuple((v, v + 1) for v in range(n - 1))), None)

    def test_small_and_large(self):
        for forest in small_forests(5) + list(LARGE_FORESTS) + [TREES]:
            self.check(forest, None)


class WrongOutside(ForestTest):
    def test_not_a_tuple_of_two(self):
        for value in [(), (3,), (3, (), ()), (3, (), None), [3, ()], "3:", "ab", None, 3, True, False,
                      {}, {"a": 1, "b": 2}, [], [0, 1], ((3, ()),), (0, (), 0, ())]:
            self.check(value, (None, "tuple"))

    def test_any_value(self):
        for value in odd_values():
            if type(value) is not tuple or len(value) != 2:
                self.check(value, (None, "tuple"))
            else:
                self.assertIs(is_forest(value), forest_error(value) is None)

    def test_wrong_number_of_vertices(self):
        for n in odd_values() + [-1, -12, 13, 14, 100, 10 ** 29]:
            self.check((n, ()), (None, "vertices"))

    def test_thirteen(self):
        self.check((13, ()), (None, "vertices"))
        self.check((13, tuple((v, v + 1) for v in range(12))), (None, "vertices"))

    def test_edges_are_no_tuple(self):
        for edges in odd_values() + [0, 1, -1]:
            if type(edges) is not tuple:
                self.check((3, edges), (None, "edges"))

    def test_first_error_outside(self):
        self.check([13, []], (None, "tuple"))
        self.check((13, [], 0), (None, "tuple"))
        self.check((13, []), (None, "vertices"))
        self.check((True, None), (None, "vertices"))
        self.check((-1, ((0, 0),)), (None, "vertices"))
        self.check((0, [(0, 1)]), (None, "edges"))


class WrongEdges(ForestTest):
    def wrong_edges(self):
        numbers = [(1, end) for end in odd_numbers(12)] + [(end, 1) for end in odd_numbers(12)]
        values = [(1, end) for end in odd_values()] + [(end, 1) for end in odd_values()]
        others = [value for value in odd_values() if value != (0, 1)]
        more = [(1, 1), (2, 1), (0, 1, 2), (0,), [0, 1], (False, 1), (0, True), (False, True), 1, 0, ((0, 1), (1, 2))]
        return numbers + values + others + more

    def test_wrong_edge_at_each_index(self):
        for wrong in self.wrong_edges():
            for index in range(11):
                edges = list(PATH_12[1])
                edges[index] = wrong
                self.check_edges(edges, (index, "edge"))

    def test_wrong_edge_alone_and_beyond_the_end(self):
        for wrong in self.wrong_edges():
            self.check_edges([wrong], (0, "edge"))
            self.check_edges(list(PATH_12[1]) + [wrong], (11, "edge"))

    def test_edges_need_vertices(self):
        self.check_edges([(0, 1)], (0, "edge"), n=0)
        self.check_edges([(0, 1)], (0, "edge"), n=1)
        self.check_edges([(0, 1)], None, n=2)
        self.check_edges([(0, 1), (1, 2)], (1, "edge"), n=2)
        self.check_edges([(10, 11)], None)
        self.check_edges([(11, 12)], (0, "edge"))

    def test_repeated_edge(self):
        for forest in (PATH_12, STAR_12, TREES):
            edges = list(forest[1])
            for index, edge in enumerate(edges):
                self.check_edges(edges[:index + 1] + [edge] + edges[index + 1:], (index + 1, "order"))
            self.check_edges(edges + edges[:1], (len(edges), "order"))

    def test_two_exchanged(self):
        for forest in (PATH_12, STAR_12, TREES):
            for index in range(len(forest[1]) - 1):
                edges = list(forest[1])
                edges[index], edges[index + 1] = edges[index + 1], edges[index]
                self.check_edges(edges, (index + 1, "order"))

    def test_first_and_last_exchanged(self):
        edges = list(PATH_12[1])
        edges[0], edges[-1] = edges[-1], edges[0]
        self.check_edges(edges, (1, "order"))

    def test_cycle_at_each_index(self):
        for index in range(2, 12):
            edges = [(0, v) for v in range(1, index + 1)]
            self.check_edges(edges + [(1, 2)], (index, "cycle"))
            self.check_edges(edges + [(index - 1, index)], (index, "cycle"))
            self.check_edges(edges + [(1, 2), (10, 11)], (index, "cycle"))

    def test_cycle_first_middle_and_last(self):
        self.check_edges([(0, 1), (0, 2), (1, 2), (3, 4), (5, 6), (7, 8)], (2, "cycle"))
        self.check_edges([(0, 1), (2, 3), (2, 4), (3, 4), (5, 6), (7, 8)], (3, "cycle"))
        self.check_edges([(0, 1), (2, 3), (4, 5), (6, 7), (6, 8), (7, 8)], (5, "cycle"))

    def test_long_cycles(self):
        for length in range(3, 13):
            edges = sorted([(v, v + 1) for v in range(length - 1)] + [(0, length - 1)])
            self.check_edges(edges, (length - 1, "cycle"))

    def test_cycle_that_joins_two_built_parts(self):
        self.check_edges([(0, 1), (0, 5), (1, 4), (2, 3), (2, 5), (3, 4)], (5, "cycle"))

    def test_edge_before_order_before_cycle(self):
        self.check_edges([(1, 2), (1, 0)], (1, "edge"))
        self.check_edges([(0, 2), (1, 2), (0, 1)], (2, "order"))
        self.check_edges([(0, 1), (0, 1)], (1, "order"))
        self.check_edges([(0, 1), (0, 2), (1, 2), (1, 2), None], (2, "cycle"))
        self.check_edges([(0, 2), (0, 1), None], (1, "order"))
        self.check_edges([(0, 1), None, (0, 1)], (1, "edge"))

    def test_against_the_words(self):
        pairs = [(a, b) for a in range(-1, 4) for b in range(-1, 5)] + [(True, 2), (0, True), [0, 1], None]
        for n in range(5):
            for edges in product(pairs, repeat=2):
                self.check_edges(edges, edges_error_by_words(n, edges), n)

    def test_against_the_words_in_longer_tuples(self):
        pairs = [(a, b) for a in range(4) for b in range(a + 1, 4)]
        for many in range(6):
            for edges in product(pairs, repeat=many):
                self.check_edges(edges, edges_error_by_words(4, edges), 4)
