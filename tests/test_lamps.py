"""lamp_certificate and lamp_holds ([6])."""

import unittest

from tests.samples import (
    BARE_12, CATERPILLAR_12, HUBS_11, LARGER_FORESTS, PATH_12, STAR_12, all_settings, follow_by_words,
    greatest_by_words, is_lock_by_words, locks_of, odd_numbers, odd_values, small_forests, steps_from,
    with_one_part_replaced,
)
from treelamps.errors import NoLamp
from treelamps.locks import lamp_certificate, lamp_holds

PATH_3 = (3, ((0, 1), (1, 2)))
PATH_4 = (4, ((0, 1), (1, 2), (2, 3)))
PATH_5 = (5, ((0, 1), (1, 2), (2, 3), (3, 4)))


def lamps_of_small_forests(n):
    return [(forest, setting, lamp) for forest in small_forests(n) for setting in all_settings(forest)
            for lamp in setting]


def lamps_of_larger_forests(step):
    return [(forest, setting, lamp) for forest in LARGER_FORESTS for setting in all_settings(forest)[::-step]
            for lamp in setting]


def moves_by_words(forest, setting, lamp, slides):
    if follow_by_words(forest, setting, slides) is None:
        return False
    return [u for u, v in slides].count(lamp) == 1 and slides[-1][0] == lamp


def holds_by_words(forest, setting, lamp, value):
    """The words of lamp_holds."""
    if type(value) is not tuple or len(value) != 2:
        return False
    if value[0] == "rigid":
        return is_lock_by_words(forest, setting, value[1]) and lamp in value[1]
    return value[0] == "moves" and moves_by_words(forest, setting, lamp, value[1])


def longer_walks(forest, setting, slides):
    """The slides with one more possible slide behind them."""
    end = follow_by_words(forest, setting, slides)
    return [slides + (slide,) for slide, _ in steps_from(forest, end)]


class LampCertificateTest(unittest.TestCase):
    def check(self, forest, setting, lamp):
        certificate = lamp_certificate(forest, setting, lamp)
        self.assertIs(type(certificate), tuple)
        kind, proof = certificate
        lock = greatest_by_words(forest, setting)
        if lamp in lock:
            self.assertEqual(certificate, ("rigid", lock))
        else:
            self.assertEqual(kind, "moves", (forest, setting, lamp))
            self.assertTrue(moves_by_words(forest, setting, lamp, proof), (forest, setting, lamp, proof))
            self.assertLessEqual(len(proof), len(setting))

    def test_every_lamp(self):
        for case in lamps_of_small_forests(5):
            self.check(*case)

    def test_lamps_of_larger_forests(self):
        for case in lamps_of_larger_forests(3):
            self.check(*case)

    def test_all_lamps_must_slide(self):
        kind, slides = lamp_certificate(PATH_12, (0, 2, 4, 6, 8, 10), 0)
        self.assertEqual((kind, slides), ("moves", ((10, 11), (8, 9), (6, 7), (4, 5), (2, 3), (0, 1))))

    def test_known_ones(self):
        self.assertEqual(lamp_certificate(PATH_3, (0, 2), 2), ("rigid", (0, 2)))
        self.assertEqual(lamp_certificate((1, ()), (0,), 0), ("rigid", (0,)))
        self.assertEqual(lamp_certificate((2, ((0, 1),)), (1,), 1), ("moves", ((1, 0),)))
        self.assertEqual(lamp_certificate(STAR_12, (3, 7, 8), 7), ("rigid", (3, 7, 8)))
        self.assertEqual(lamp_certificate(HUBS_11, (1, 2, 5, 9), 1), ("rigid", (1, 2)))
        self.assertEqual(lamp_certificate(BARE_12, (0, 11), 11), ("rigid", (0, 11)))

    def check_no_lamp(self, forest, setting, value):
        with self.assertRaises(NoLamp) as caught:
            lamp_certificate(forest, setting, value)
        self.assertIs(type(caught.exception), NoLamp)
        self.assertIs(caught.exception.value, value)

    def test_dark_vertices(self):
        for forest in small_forests(4):
            for setting in all_settings(forest):
                for vertex in range(forest[0]):
                    if vertex not in setting:
                        self.check_no_lamp(forest, setting, vertex)

    def test_numbers_beyond_the_forest(self):
        for forest, setting in [(PATH_4, (0, 2)), (PATH_4, ()), ((0, ()), ()), (BARE_12, tuple(range(12)))]:
            for number in odd_numbers(forest[0]):
                self.check_no_lamp(forest, setting, number)

    def test_bools(self):
        for value in (True, False):
            self.check_no_lamp((2, ()), (0, 1), value)
            self.check_no_lamp(PATH_3, (0, 2), value)
            self.check_no_lamp(PATH_3, (1,), value)

    def test_other_values(self):
        for value in odd_values():
            self.check_no_lamp(BARE_12, tuple(range(12)), value)
            self.check_no_lamp(PATH_4, (1, 3), value)
            self.check_no_lamp((0, ()), (), value)


class LampHoldsTest(unittest.TestCase):
    def check(self, forest, setting, lamp, value, expected):
        self.assertIs(lamp_holds(forest, setting, lamp, value), expected, (forest, setting, lamp, value))

    def check_words(self, forest, setting, lamp, value):
        self.check(forest, setting, lamp, value, holds_by_words(forest, setting, lamp, value))

    def test_what_lamp_certificate_returns(self):
        for forest, setting, lamp in lamps_of_small_forests(5) + lamps_of_larger_forests(7):
            self.check(forest, setting, lamp, lamp_certificate(forest, setting, lamp), True)

    def test_certificates_of_other_lamps(self):
        for forest, setting, lamp in lamps_of_small_forests(5):
            for other in setting:
                self.check_words(forest, setting, lamp, lamp_certificate(forest, setting, other))

    def test_every_lock(self):
        for forest, setting, lamp in lamps_of_small_forests(5) + lamps_of_larger_forests(97):
            for lock in locks_of(forest, setting):
                self.check(forest, setting, lamp, ("rigid", lock), lamp in lock)
                self.check(forest, setting, lamp, ("moves", lock), False)

    def test_smaller_locks(self):
        self.check(STAR_12, (1, 2, 3), 1, ("rigid", (1, 3)), True)
        self.check(STAR_12, (1, 2, 3), 2, ("rigid", (1, 3)), False)
        self.check(STAR_12, (1, 2, 3), 1, ("rigid", (1,)), False)
        self.check(BARE_12, (4, 5), 4, ("rigid", (4,)), True)
        self.check(BARE_12, (4, 5), 4, ("rigid", (5,)), False)
        self.check(BARE_12, (4, 5), 4, ("rigid", ()), False)

    def test_walks_that_go_on_or_stop_too_early(self):
        for forest, setting, lamp in lamps_of_small_forests(5) + lamps_of_larger_forests(29):
            kind, slides = lamp_certificate(forest, setting, lamp)
            if kind == "moves":
                for many in range(len(slides)):
                    self.check(forest, setting, lamp, ("moves", slides[:many]), False)
                for longer in longer_walks(forest, setting, slides):
                    self.check(forest, setting, lamp, ("moves", longer), False)

    def test_longer_walks_that_end_with_the_lamp(self):
        around = ((2, 3), (3, 2), (2, 3), (0, 1))
        self.check(PATH_4, (0, 2), 0, ("moves", around), True)
        self.check(PATH_4, (0, 2), 0, ("moves", around * 2), False)
        self.check(PATH_4, (0, 2), 0, ("moves", around + ((1, 0), (0, 1))), False)
        self.check(PATH_4, (0, 2), 0, ("moves", ((2, 3), (3, 2)) * 200 + ((2, 3), (0, 1))), True)

    def test_every_walk_of_up_to_three_slides(self):
        for forest, setting, lamp in lamps_of_small_forests(4) + [(CATERPILLAR_12, (6, 8, 10), 8)]:
            walks = [()]
            for slides in walks:
                self.check(forest, setting, lamp, ("moves", slides), moves_by_words(forest, setting, lamp, slides))
                if len(slides) < 3:
                    walks.extend(longer_walks(forest, setting, slides))

    def test_no_slides(self):
        for forest, setting, lamp in lamps_of_small_forests(4):
            self.check(forest, setting, lamp, ("moves", ()), False)
            self.check(forest, setting, lamp, ("rigid", ()), False)

    def test_impossible_slides(self):
        self.check(PATH_4, (0, 2), 0, ("moves", ((0, 1),)), False)
        self.check(PATH_4, (0, 2), 0, ("moves", ((2, 3), (2, 3), (0, 1))), False)
        self.check(PATH_4, (0, 2), 0, ("moves", ((2, 3), (0, 2))), False)
        self.check(PATH_4, (0, 2), 2, ("moves", ((0, 1), (2, 3))), False)
        self.check(PATH_3, (0, 2), 0, ("moves", ((0, 1),)), False)

    def test_other_words(self):
        lock = ("rigid", (0, 2))
        slides = ("moves", ((2, 3), (0, 1)))
        for word in ["", "Rigid", "rigid ", "moves ", "MOVES", "move", "plan", "lock", b"rigid", None, 0, 1, True]:
            self.check(PATH_3, (0, 2), 0, (word, lock[1]), False)
            self.check(PATH_4, (0, 2), 0, (word, slides[1]), False)
        self.check(PATH_3, (0, 2), 0, ("moves", lock[1]), False)
        self.check(PATH_4, (0, 2), 0, ("rigid", slides[1]), False)

    def test_one_part_replaced(self):
        others = odd_values() + odd_numbers(5) + [0, 1, 2, 3, "rigid", "moves"]
        cases = [(PATH_3, (0, 2), 0), (PATH_5, (0, 2, 4), 2), (PATH_4, (0, 2), 0), (PATH_4, (1, 3), 3),
                 ((2, ((0, 1),)), (1,), 1), ((2, ((0, 1),)), (0,), 0), ((2, ()), (0, 1), 1), ((2, ()), (0, 1), 0),
                 ((5, PATH_4[1]), (0, 2, 4), 4)]
        for forest, setting, lamp in cases:
            certificate = lamp_certificate(forest, setting, lamp)
            for value in with_one_part_replaced(certificate, others):
                self.check_words(forest, setting, lamp, value)

    def test_bools_inside(self):
        self.check((2, ((0, 1),)), (1,), 1, ("moves", ((1, 0),)), True)
        for slide in ((True, 0), (1, False), (True, False)):
            self.check((2, ((0, 1),)), (1,), 1, ("moves", (slide,)), False)
        self.check((2, ()), (0, 1), 1, ("rigid", (1,)), True)
        for lock in ((True,), (0, True), (False, 1)):
            self.check((2, ()), (0, 1), 1, ("rigid", lock), False)

    def test_any_value(self):
        for value in odd_values() + odd_numbers(3) + [0, 1, 2]:
            for whole in (value, (value,), (value, value), ("rigid", value), ("moves", value), ("moves", (value,)),
                          ("rigid", (value,)), ("rigid", (0, 2), value), ["rigid", (0, 2)], "rigid"):
                self.check_words(PATH_3, (0, 2), 0, whole)
                self.check_words(PATH_4, (0, 2), 0, whole)
