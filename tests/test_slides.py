"""slide_lamp, possible_slides, follow and backward ([5])."""

import unittest

from tests.samples import (
    LARGE_FORESTS, PATH_12, STAR_12, all_settings, is_free, odd_numbers, odd_values, slide_is_possible,
    small_forests, touches,
)
from treelamps.errors import BadSlides, Blocked, NoLamp, NotAdjacent
from treelamps.forests import is_setting
from treelamps.slides import backward, follow, possible_slides, slide_lamp

PATH_4 = (4, ((0, 1), (1, 2), (2, 3)))


def boards(step=1):
    """Forests with settings: all small ones, and each step-th setting of the large ones."""
    small = [(forest, setting) for forest in small_forests(4) for setting in all_settings(forest)]
    large = [(forest, setting) for forest in LARGE_FORESTS for setting in all_settings(forest)[::step]]
    return small + large


def slide_by_words(forest, setting, u, v):
    """The error's class and field, or None and the setting after the slide."""
    if u not in setting:
        return (NoLamp, u)
    if not touches(forest, u, v):
        return (NotAdjacent, v)
    others = [lamp for lamp in setting if lamp != u and touches(forest, lamp, v)]
    if others:
        return (Blocked, others[0])
    return (None, tuple(sorted({*setting, v} - {u})))


class SlidesTest(unittest.TestCase):
    def error_of(self, kind, function, *arguments):
        with self.assertRaises(kind) as caught:
            function(*arguments)
        self.assertIs(type(caught.exception), kind)
        return caught.exception


class SlideLampTest(SlidesTest):
    def check(self, forest, setting, u, v):
        kind, expected = slide_by_words(forest, setting, u, v)
        if kind is None:
            result = slide_lamp(forest, setting, u, v)
            self.assertEqual(result, expected)
            self.assertTrue(is_free(forest, result) and is_setting(forest, result))
            self.assertEqual(slide_lamp(forest, result, v, u), setting)
        else:
            error = self.error_of(kind, slide_lamp, forest, setting, u, v)
            self.assertEqual(list(vars(error).values()), [expected], (forest, setting, u, v))

    def test_every_pair(self):
        for forest, setting in boards(step=15):
            for u in range(-1, forest[0] + 1):
                for v in range(-1, forest[0] + 1):
                    self.check(forest, setting, u, v)

    def test_no_lamp_first(self):
        for u in odd_values() + odd_numbers(4) + [1, 3]:
            for v in (None, True, 1, 2, [1]):
                error = self.error_of(NoLamp, slide_lamp, PATH_4, (0, 2), u, v)
                self.assertIs(error.value, u)

    def test_bools_are_no_lamps(self):
        self.assertIs(self.error_of(NoLamp, slide_lamp, PATH_4, (0, 3), False, 1).value, False)
        self.assertIs(self.error_of(NoLamp, slide_lamp, PATH_4, (1, 3), True, 0).value, True)

    def test_nothing_is_a_lamp_of_no_lamps(self):
        for u in odd_values() + odd_numbers(4) + [0, 1, 2, 3]:
            self.assertIs(self.error_of(NoLamp, slide_lamp, PATH_4, (), u, 1).value, u)

    def test_then_not_adjacent(self):
        for v in odd_values() + odd_numbers(4) + [0, 2, 3]:
            error = self.error_of(NotAdjacent, slide_lamp, PATH_4, (0, 2), 0, v)
            self.assertIs(error.value, v)

    def test_bools_are_not_adjacent(self):
        self.assertIs(self.error_of(NotAdjacent, slide_lamp, PATH_4, (0, 3), 0, True).value, True)
        self.assertIs(self.error_of(NotAdjacent, slide_lamp, PATH_4, (1, 3), 1, False).value, False)

    def test_then_blocked_by_the_smallest_other_lamp(self):
        setting = (1, 4, 7, 11)
        for u in setting:
            error = self.error_of(Blocked, slide_lamp, STAR_12, setting, u, 0)
            self.assertEqual(error.vertex, 4 if u == 1 else 1)

    def test_slides(self):
        self.assertEqual(slide_lamp(PATH_4, (0, 2), 2, 3), (0, 3))
        self.assertEqual(slide_lamp(PATH_12, (3, 9), 3, 2), (2, 9))
        self.assertEqual(slide_lamp(STAR_12, (5,), 5, 0), (0,))
        self.assertEqual(slide_lamp((4, ((0, 3),)), (0, 1, 2), 0, 3), (1, 2, 3))


class PossibleSlidesTest(SlidesTest):
    def test_pair_by_pair(self):
        for forest, setting in boards(step=5):
            pairs = [(u, v) for u in range(forest[0]) for v in range(forest[0])]
            expected = tuple(pair for pair in pairs if slide_is_possible(forest, setting, *pair))
            self.assertEqual(possible_slides(forest, setting), expected, (forest, setting))

    def test_none(self):
        for forest in LARGE_FORESTS:
            self.assertEqual(possible_slides(forest, ()), ())
        self.assertEqual(possible_slides((0, ()), ()), ())
        self.assertEqual(possible_slides(STAR_12, tuple(range(1, 12))), ())

    def test_several(self):
        self.assertEqual(possible_slides(PATH_12, (3, 8)), ((3, 2), (3, 4), (8, 7), (8, 9)))
        self.assertEqual(possible_slides(STAR_12, (0,)), tuple((0, v) for v in range(1, 12)))


class FollowTest(SlidesTest):
    PLAN = ((2, 3), (0, 1), (1, 0), (3, 2), (2, 3), (3, 2), (2, 3))

    def index_of_error(self, forest, setting, slides):
        return self.error_of(BadSlides, follow, forest, setting, slides).index

    def test_no_slides(self):
        for forest, setting in boards(step=40):
            self.assertEqual(follow(forest, setting, ()), setting)

    def test_one_slide(self):
        for forest, setting in boards(step=40):
            for u, v in possible_slides(forest, setting):
                self.assertEqual(follow(forest, setting, ((u, v),)), slide_lamp(forest, setting, u, v))

    def test_all_pairs_as_one_slide(self):
        for forest, setting in boards(step=400):
            for u in range(-1, forest[0] + 1):
                for v in range(-1, forest[0] + 1):
                    if not slide_is_possible(forest, setting, u, v):
                        self.assertEqual(self.index_of_error(forest, setting, ((u, v),)), 0)

    def test_many_slides(self):
        self.assertEqual(follow(PATH_4, (0, 2), self.PLAN), (0, 3))
        walk = tuple((v, v + 1) for v in range(11))
        self.assertEqual(follow(PATH_12, (0,), walk), (11,))
        self.assertEqual(follow(PATH_12, (0,), (walk + backward(walk)) * 30), (0,))

    def test_slides_depend_on_those_before(self):
        self.assertEqual(self.index_of_error(PATH_4, (0, 2), ((0, 1), (2, 3))), 0)
        self.assertEqual(self.index_of_error(PATH_4, (0, 2), ((2, 3), (2, 3))), 1)

    def test_not_a_tuple(self):
        values = [value for value in odd_values() if type(value) is not tuple]
        for value in values + [0, 1, [(2, 3)], [[2, 3]], list(self.PLAN)]:
            self.assertIsNone(self.index_of_error(PATH_4, (0, 2), value))

    def test_wrong_item_at_each_index(self):
        swapped = [[2, 3], (2, 3, 0), (3,), ((2, 3),), (0, 2), (1, 1), (4, 3), (-1, 0), (0, 1, None), 2]
        doubtful = [(True, 0), (0, True), (False, 1), (2, "3"), ("2", "3"), (2, None), ([2], 3), (2, {"a": 3})]
        for index in range(len(self.PLAN)):
            for wrong in odd_values() + swapped + doubtful:
                if wrong in ((0, 1), (1, 0)) and type(wrong[0]) is int:
                    continue
                slides = self.PLAN[:index] + (wrong,) + self.PLAN[index + 1:]
                self.assertEqual(self.index_of_error(PATH_4, (0, 2), slides), index)
                self.assertEqual(self.index_of_error(PATH_4, (0, 2), slides[:index + 1]), index)

    def test_first_wrong_item(self):
        self.assertEqual(self.index_of_error(PATH_4, (0, 2), ((2, 3), None, None, (0, 1))), 1)
        self.assertEqual(self.index_of_error(PATH_4, (0, 2), (None, [])), 0)

    def test_any_value(self):
        for value in odd_values():
            if value == () and type(value) is tuple:
                continue
            index = None if type(value) is not tuple else 0
            self.assertEqual(self.index_of_error(PATH_4, (1, 3), value), index)

    def test_bools_are_no_vertices(self):
        self.assertEqual(follow(PATH_4, (1, 3), ((1, 0),)), (0, 3))
        for wrong in ((True, 0), (1, False), (True, False)):
            self.assertEqual(self.index_of_error(PATH_4, (1, 3), (wrong,)), 0)


class BackwardTest(SlidesTest):
    def test_none_one_and_many(self):
        self.assertEqual(backward(()), ())
        self.assertEqual(backward(((2, 3),)), ((3, 2),))
        self.assertEqual(backward(((0, 1), (2, 3), (4, 5))), ((5, 4), (3, 2), (1, 0)))

    def test_twice(self):
        for slides in ((), ((2, 3),), ((0, 1), (2, 3), (0, 1), (11, 10)), FollowTest.PLAN):
            self.assertEqual(backward(backward(slides)), slides)

    def test_leads_back(self):
        for many in range(len(FollowTest.PLAN) + 1):
            slides = FollowTest.PLAN[:many]
            there = follow(PATH_4, (0, 2), slides)
            self.assertEqual(follow(PATH_4, there, backward(slides)), (0, 2))

    def test_pairs_need_not_be_possible(self):
        self.assertEqual(backward(((7, 7), (0, 5))), ((5, 0), (7, 7)))
