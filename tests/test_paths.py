"""neighbours_of, path_between and parts_of ([4])."""

import unittest

from tests.samples import BARE_12, LARGE_FORESTS, PATH_12, TREES_12, all_subsets, small_forests, touches, walk
from treelamps.forests import neighbours_of, parts_of, path_between


class NeighboursTest(unittest.TestCase):
    def test_every_vertex(self):
        for forest in small_forests(5) + list(LARGE_FORESTS):
            vertices = range(forest[0])
            for vertex in vertices:
                expected = tuple(other for other in vertices if touches(forest, vertex, other))
                self.assertEqual(neighbours_of(forest, vertex), expected, (forest, vertex))

    def test_lower_and_higher_ones(self):
        self.assertEqual(neighbours_of(TREES_12, 5), (0, 4, 7))
        self.assertEqual(neighbours_of(TREES_12, 11), (3,))
        self.assertEqual(neighbours_of(BARE_12, 3), ())


class PathTest(unittest.TestCase):
    def check(self, forest, first, second):
        path = path_between(forest, first, second)
        if second not in walk(forest[1], first):
            self.assertIsNone(path)
            return
        self.assertIs(type(path), tuple)
        self.assertEqual((path[0], path[-1]), (first, second))
        self.assertEqual(len(set(path)), len(path))
        for a, b in zip(path, path[1:]):
            self.assertTrue(touches(forest, a, b))

    def test_every_pair(self):
        for forest in small_forests(5) + list(LARGE_FORESTS):
            for first in range(forest[0]):
                for second in range(forest[0]):
                    self.check(forest, first, second)

    def test_both_directions(self):
        for forest in LARGE_FORESTS:
            for first in range(12):
                for second in range(12):
                    path = path_between(forest, first, second)
                    back = path_between(forest, second, first)
                    self.assertEqual(back, None if path is None else path[::-1])

    def test_known_paths(self):
        self.assertEqual(path_between(PATH_12, 0, 11), tuple(range(12)))
        self.assertEqual(path_between(PATH_12, 11, 0), tuple(range(11, -1, -1)))
        self.assertEqual(path_between(TREES_12, 8, 0), (8, 7, 5, 0))
        self.assertIsNone(path_between(TREES_12, 8, 1))

    def test_a_vertex_and_itself(self):
        for forest in LARGE_FORESTS + ((1, ()),):
            for vertex in range(forest[0]):
                self.assertEqual(path_between(forest, vertex, vertex), (vertex,))


class PartsTest(unittest.TestCase):
    def parts_by_words(self, forest, vertices):
        edges = [edge for edge in forest[1] if edge[0] in vertices and edge[1] in vertices]
        return tuple(sorted({tuple(sorted(walk(edges, vertex))) for vertex in vertices}))

    def check(self, forest, vertices):
        self.assertEqual(parts_of(forest, vertices), self.parts_by_words(forest, vertices), (forest, vertices))

    def test_every_subset(self):
        for forest in small_forests(4):
            for vertices in all_subsets(forest[0]):
                self.check(forest, vertices)

    def test_subsets_of_large_forests(self):
        for forest in LARGE_FORESTS:
            for vertices in all_subsets(12)[::7]:
                self.check(forest, vertices)
            self.check(forest, tuple(range(12)))

    def test_no_vertices(self):
        for forest in LARGE_FORESTS + ((0, ()),):
            self.assertEqual(parts_of(forest, ()), ())

    def test_all_vertices(self):
        self.assertEqual(parts_of(PATH_12, tuple(range(12))), (tuple(range(12)),))
        self.assertEqual(parts_of(BARE_12, tuple(range(12))), tuple((v,) for v in range(12)))
        self.assertEqual(parts_of(TREES_12, tuple(range(12))), ((0, 4, 5, 7, 8), (1, 2, 9), (3, 11), (6, 10)))

    def test_parts_in_the_order_of_their_first_vertices(self):
        self.assertEqual(parts_of((4, ((0, 3), (1, 2))), (0, 1, 2, 3)), ((0, 3), (1, 2)))
        self.assertEqual(parts_of((5, ((0, 4), (1, 4), (2, 3))), (0, 1, 2, 3, 4)), ((0, 1, 4), (2, 3)))
