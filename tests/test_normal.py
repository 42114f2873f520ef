"""normal_setting ([9])."""

import unittest

from tests.samples import (
    BARE_12, HUBS_11, LARGER_FORESTS, PATH_12, SPIDER_12, STAR_12, TREES_12, all_settings, classes_by_search,
    count_in, greatest_by_words, is_free, pieces_by_words, small_forests, touches, walk,
)
from treelamps.reach import is_reachable, normal_setting


def normal_lamps(forest, tree, many):
    """The words of [9] for a tree, given by its ascending vertices."""
    if many == 0:
        return []
    near = {v: [w for w in tree if touches(forest, v, w)] for v in tree}
    leaves = [v for v in tree if len(near[v]) == 1]
    inner = {v: [w for w in near[near[v][0]] if w not in leaves] for v in leaves}
    v = min(leaf for leaf in leaves if len(inner[leaf]) <= 1)
    if not inner[v]:
        assert many == 1
        return [v]
    edges = [edge for edge in forest[1] if near[v][0] not in edge and set(edge) <= set(tree)]
    return [v] + normal_lamps(forest, sorted(walk(edges, inner[v][0])), many - 1)


def normal_by_words(forest, setting):
    lock = greatest_by_words(forest, setting)
    lamps = list(lock)
    for piece in pieces_by_words(forest, lock):
        lamps += normal_lamps(forest, piece, count_in(setting, piece))
    return tuple(sorted(lamps))


class NormalTest(unittest.TestCase):
    def check(self, forest, setting):
        normal = normal_setting(forest, setting)
        self.assertIs(type(normal), tuple)
        self.assertEqual(normal, normal_by_words(forest, setting), (forest, setting))

    def check_classes(self, forest):
        normals = []
        for settings in classes_by_search(forest):
            normal = normal_setting(forest, settings[0])
            self.assertIn(normal, settings)
            for setting in settings:
                self.assertEqual(normal_setting(forest, setting), normal, (forest, setting))
            normals.append(normal)
        self.assertEqual(len(set(normals)), len(normals), forest)

    def test_step_by_step(self):
        for forest in small_forests(5):
            for setting in all_settings(forest):
                self.check(forest, setting)

    def test_step_by_step_in_larger_forests(self):
        for forest in LARGER_FORESTS:
            for setting in all_settings(forest)[::-3]:
                self.check(forest, setting)

    def test_the_same_exactly_in_one_class(self):
        for forest in small_forests(5) + list(LARGER_FORESTS):
            self.check_classes(forest)

    def test_of_a_normal_setting(self):
        for forest in small_forests(5) + list(LARGER_FORESTS):
            for setting in all_settings(forest)[::-4]:
                normal = normal_setting(forest, setting)
                self.assertEqual(normal_setting(forest, normal), normal)
                self.assertTrue(is_free(forest, normal))
                self.assertIs(is_reachable(forest, setting, normal), True)

    def test_known_ones(self):
        self.assertEqual(normal_setting((0, ()), ()), ())
        self.assertEqual(normal_setting((1, ()), (0,)), (0,))
        self.assertEqual(normal_setting((2, ((0, 1),)), (1,)), (0,))
        self.assertEqual(normal_setting((3, ((0, 1), (1, 2))), (1,)), (0,))
        self.assertEqual(normal_setting((3, ((0, 2), (1, 2))), (2,)), (0,))
        self.assertEqual(normal_setting(PATH_12, (1, 3, 5, 7, 9, 11)), (0, 2, 4, 6, 8, 10))
        self.assertEqual(normal_setting(PATH_12, (5, 11)), (0, 2))
        self.assertEqual(normal_setting(STAR_12, (0,)), (1,))
        self.assertEqual(normal_setting(STAR_12, (8, 9)), (8, 9))
        self.assertEqual(normal_setting(BARE_12, (8, 9)), (8, 9))
        self.assertEqual(normal_setting(HUBS_11, (1, 2, 7)), (1, 2, 3))
        self.assertEqual(normal_setting(TREES_12, (1, 7, 10, 11)), (0, 2, 3, 6))

    def test_leaves_whose_neighbour_has_two_inner_neighbours_wait(self):
        # The middle vertex 1 has the leaf 0 and the inner neighbours 2 and 4, so 3 comes before 0.
        fork = (6, ((0, 1), (1, 2), (1, 4), (2, 3), (4, 5)))
        self.assertEqual(normal_setting(fork, (1,)), (3,))
        self.assertEqual(normal_setting(fork, (0, 2)), (0, 3))
        self.assertEqual(normal_setting(fork, (0, 3, 5)), (0, 3, 4))

    def test_spider(self):
        self.assertEqual(normal_setting(SPIDER_12, (6, 7)), normal_by_words(SPIDER_12, (2, 3)))
