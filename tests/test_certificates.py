"""find_certificate and certificate_holds ([8])."""

import unittest

from tests.samples import (
    BARE_12, CATERPILLAR_12, HUBS_11, LARGER_FORESTS, PATH_12, STAR_12, TREES_12, all_settings, class_by_search,
    count_in, follow_by_words, greatest_by_words, is_lock_by_words, locks_of, odd_numbers, odd_values,
    pieces_by_words, small_forests, steps_from, with_one_part_replaced,
)
from treelamps.reach import certificate_holds, find_certificate, find_plan
from treelamps.slides import backward

PATH_3 = (3, ((0, 1), (1, 2)))
PATH_4 = (4, ((0, 1), (1, 2), (2, 3)))
KITE_7 = (7, ((0, 1), (1, 2), (1, 3), (1, 5), (3, 4), (5, 6)))
TWO_PATHS = (6, ((0, 1), (1, 2), (3, 4), (4, 5)))


def small_pairs(n):
    return [(forest, first, second) for forest in small_forests(n) for first in all_settings(forest)
            for second in all_settings(forest)]


def larger_pairs(many):
    """For each larger forest, about many * many pairs of settings from all sizes, and as many of one size."""
    pairs = []
    for forest in LARGER_FORESTS:
        settings = all_settings(forest)
        some = settings[::-(len(settings) // many + 1)]
        middle = [setting for setting in settings if len(setting) == 3][::3][:many]
        pairs.extend((forest, first, second) for group in (some, middle) for first in group for second in group)
    return pairs


def some_is_dark(lock, setting):
    return not set(lock) <= set(setting)


def certificate_by_words(forest, first, second):
    """The words of find_certificate, for settings of which the second one is not reached."""
    lock = greatest_by_words(forest, first)
    if some_is_dark(lock, second):
        return ("lock", 0, lock)
    other = greatest_by_words(forest, second)
    if some_is_dark(other, first):
        return ("lock", 1, other)
    pieces = pieces_by_words(forest, lock)
    return ("count", lock, [piece for piece in pieces if count_in(first, piece) != count_in(second, piece)][0])


def lock_by_words(forest, first, second, side, lock):
    if type(side) is not int or side not in (0, 1):
        return False
    own, other = ((first, second), (second, first))[side]
    return is_lock_by_words(forest, own, lock) and some_is_dark(lock, other)


def count_by_words(forest, first, second, lock, piece):
    if not is_lock_by_words(forest, first, lock) or not is_lock_by_words(forest, second, lock):
        return False
    # The reprs are compared, because True equals 1.
    if repr(piece) not in [repr(one) for one in pieces_by_words(forest, lock)]:
        return False
    return count_in(first, piece) != count_in(second, piece)


def holds_by_words(forest, first, second, value):
    """The words of [8]."""
    if type(value) is not tuple:
        return False
    if len(value) == 2 and value[0] == "plan":
        return follow_by_words(forest, first, value[1]) == second
    if len(value) == 3 and value[0] == "lock":
        return lock_by_words(forest, first, second, *value[1:])
    return len(value) == 3 and value[0] == "count" and count_by_words(forest, first, second, *value[1:])


class FindCertificateTest(unittest.TestCase):
    def check(self, forest, first, second):
        case = (forest, first, second)
        certificate = find_certificate(*case)
        plan = find_plan(*case)
        if plan is not None:
            self.assertEqual(certificate, ("plan", plan), case)
        else:
            self.assertEqual(certificate, certificate_by_words(*case), case)
        self.assertIs(holds_by_words(*case, certificate), True, case)
        self.assertIs(certificate_holds(*case, certificate), True, case)

    def test_every_pair(self):
        for case in small_pairs(5):
            self.check(*case)

    def test_pairs_of_larger_forests(self):
        for case in larger_pairs(18):
            self.check(*case)

    def test_plans(self):
        for forest, first, second in small_pairs(4):
            reached = second in class_by_search(forest, first)
            self.assertIs(find_certificate(forest, first, second)[0] == "plan", reached)

    def test_locks(self):
        self.assertEqual(find_certificate(PATH_3, (0, 2), (0,)), ("lock", 0, (0, 2)))
        self.assertEqual(find_certificate(PATH_3, (0,), (0, 2)), ("lock", 1, (0, 2)))
        self.assertEqual(find_certificate(STAR_12, (1, 2), (1, 3)), ("lock", 0, (1, 2)))
        self.assertEqual(find_certificate(STAR_12, (1, 2), (1, 2, 3)), ("lock", 1, (1, 2, 3)))
        self.assertEqual(find_certificate(BARE_12, (), (7,)), ("lock", 1, (7,)))
        self.assertEqual(find_certificate((1, ()), (0,), ()), ("lock", 0, (0,)))

    def test_side_is_a_number(self):
        self.assertIs(type(find_certificate(PATH_3, (0, 2), (0,))[1]), int)
        self.assertIs(type(find_certificate(PATH_3, (0,), (0, 2))[1]), int)

    def test_counts(self):
        self.assertEqual(find_certificate(PATH_12, (0, 5), (0, 5, 9)), ("count", (), tuple(range(12))))
        self.assertEqual(find_certificate(KITE_7, (0, 2, 3), (0, 2, 5)), ("count", (0, 2), (3, 4)))
        self.assertEqual(find_certificate(KITE_7, (0, 2, 3), (0, 2, 3, 5)), ("count", (0, 2), (5, 6)))
        self.assertEqual(find_certificate(TWO_PATHS, (0,), (3,)), ("count", (), (0, 1, 2)))
        self.assertEqual(find_certificate(TREES_12, (0, 2, 9, 10), (0, 2, 9)), ("count", (2, 9), (6, 10)))

    def test_a_lock_goes_before_a_count(self):
        self.assertEqual(find_certificate(TWO_PATHS, (0, 2), (3,)), ("lock", 0, (0, 2)))
        self.assertEqual(find_certificate(TWO_PATHS, (0,), (3, 5)), ("lock", 1, (3, 5)))
        self.assertEqual(find_certificate(TWO_PATHS, (0, 2), (3, 5)), ("lock", 0, (0, 2)))


class CertificateHoldsTest(unittest.TestCase):
    def check(self, forest, first, second, value, expected):
        result = certificate_holds(forest, first, second, value)
        self.assertIs(result, expected, (forest, first, second, value))

    def check_words(self, forest, first, second, value):
        self.check(forest, first, second, value, holds_by_words(forest, first, second, value))

    def test_certificates_of_other_pairs(self):
        for forest in small_forests(4):
            settings = all_settings(forest)
            certificates = {find_certificate(forest, a, b) for a in settings for b in settings}
            for first in settings:
                for second in settings[::3]:
                    for value in certificates:
                        self.check_words(forest, first, second, value)

    def test_other_plans(self):
        for forest, first, second in small_pairs(4) + larger_pairs(8):
            plan = find_plan(forest, first, second)
            if plan is not None:
                for slide, _ in steps_from(forest, second)[:2]:
                    longer = plan + (slide,) + backward((slide,))
                    self.check(forest, first, second, ("plan", longer), True)
                    self.check(forest, first, second, ("plan", longer[:-1]), False)
                    self.check(forest, first, second, ("plan", ((slide[1], slide[0]),) + plan), False)
                if plan:
                    self.check_words(forest, first, second, ("plan", plan[:-1]))
                    self.check_words(forest, first, second, ("plan", plan[1:]))
                    self.check_words(forest, first, second, ("plan", backward(plan)))

    def test_long_plans(self):
        around = ((2, 3), (0, 1), (1, 0), (3, 2)) * 100
        self.check(PATH_4, (0, 2), (0, 2), ("plan", around), True)
        self.check(PATH_4, (0, 2), (1, 3), ("plan", around + ((2, 3), (0, 1))), True)
        self.check(PATH_4, (0, 2), (1, 3), ("plan", around), False)

    def all_exclusions(self, forest, first, second):
        """Every lock of either setting with each side, and with each of its pieces and of the pieces of ()."""
        for lock in {*locks_of(forest, first), *locks_of(forest, second)}:
            yield ("lock", 0, lock)
            yield ("lock", 1, lock)
            for piece in {*pieces_by_words(forest, lock), *pieces_by_words(forest, ())}:
                yield ("count", lock, piece)

    def test_every_lock_and_count(self):
        for forest, first, second in small_pairs(4) + larger_pairs(4):
            for value in list(self.all_exclusions(forest, first, second))[:60]:
                self.check_words(forest, first, second, value)

    def test_exactly_one_kind(self):
        for forest, first, second in small_pairs(4) + larger_pairs(4):
            reached = find_plan(forest, first, second) is not None
            excluded = [certificate_holds(forest, first, second, value)
                        for value in self.all_exclusions(forest, first, second)]
            self.assertIs(any(excluded), not reached, (forest, first, second))

    def test_no_plan_if_excluded(self):
        for forest in small_forests(4):
            for first in all_settings(forest):
                walks = [((), first)]
                for slides, there in walks:
                    for second in all_settings(forest):
                        self.check(forest, first, second, ("plan", slides), there == second)
                    if len(slides) < 2:
                        walks.extend((slides + (slide,), other) for slide, other in steps_from(forest, there))

    def test_locks_that_are_right_and_wrong(self):
        self.check(PATH_3, (0, 2), (0,), ("lock", 0, (0, 2)), True)
        self.check(PATH_3, (0, 2), (0,), ("lock", 1, (0, 2)), False)
        self.check(PATH_3, (0,), (0, 2), ("lock", 1, (0, 2)), True)
        self.check(PATH_3, (0,), (0, 2), ("lock", 0, (0, 2)), False)
        self.check(PATH_3, (0, 2), (0,), ("lock", 0, (2,)), False)
        self.check(PATH_3, (0, 2), (0,), ("lock", 0, ()), False)
        self.check(PATH_3, (0, 2), (0, 2), ("lock", 0, (0, 2)), False)
        self.check(STAR_12, (1, 2, 3), (2, 3), ("lock", 0, (1, 3)), True)
        self.check(STAR_12, (1, 2, 3), (2, 3), ("lock", 0, (2, 3)), False)
        self.check(STAR_12, (1, 2, 3), (4, 5), ("lock", 1, (4, 5)), True)

    def test_counts_that_are_right_and_wrong(self):
        self.check(KITE_7, (0, 2, 3), (0, 2, 5), ("count", (0, 2), (3, 4)), True)
        self.check(KITE_7, (0, 2, 3), (0, 2, 5), ("count", (0, 2), (5, 6)), True)
        self.check(KITE_7, (0, 2, 3), (0, 2, 4), ("count", (0, 2), (3, 4)), False)
        self.check(KITE_7, (0, 2, 3), (0, 2, 5), ("count", (), (3, 4)), False)
        self.check(KITE_7, (0, 2, 3), (0, 2, 5), ("count", (), tuple(range(7))), False)
        self.check(KITE_7, (0, 2, 3), (0, 2, 5), ("count", (0, 2), (3,)), False)
        self.check(KITE_7, (0, 2, 3), (0, 2, 5), ("count", (0, 2), ()), False)
        self.check(KITE_7, (0, 2, 3), (0, 2, 5), ("count", (0, 2), (4, 3)), False)
        self.check(KITE_7, (0, 2, 3), (5,), ("count", (0, 2), (3, 4)), False)
        self.check(KITE_7, (0, 2, 3), (5,), ("count", (), tuple(range(7))), True)
        self.check(KITE_7, (3,), (0, 2, 5), ("count", (0, 2), (3, 4)), False)
        self.check(HUBS_11, (1, 2, 5, 9), (1, 2, 5), ("count", (1, 2), (3, 4, 5, 6, 7, 8, 9, 10)), True)

    def test_sides(self):
        for side in odd_values() + [-1, 2, 3, "0", "1", (0,), [0], None, 10 ** 29, -(10 ** 29)]:
            self.check(PATH_3, (0, 2), (), ("lock", side, (0, 2)), False)
            self.check(PATH_3, (), (0, 2), ("lock", side, (0, 2)), False)
        for side in (True, False):
            for first, second in (((0, 2), ()), ((), (0, 2)), ((0, 2), (1,)), ((1,), (0, 2))):
                self.check(PATH_3, first, second, ("lock", side, (0, 2)), False)

    def test_bools_inside(self):
        self.check((2, ((0, 1),)), (0,), (1,), ("plan", ((0, 1),)), True)
        for slide in ((False, 1), (0, True), (False, True)):
            self.check((2, ((0, 1),)), (0,), (1,), ("plan", (slide,)), False)
        self.check((2, ()), (0, 1), (), ("lock", 0, (0, 1)), True)
        for lock in ((False, 1), (0, True), (False, True), (False,), (True,)):
            self.check((2, ()), (0, 1), (), ("lock", 0, lock), False)
        self.check((2, ((0, 1),)), (0,), (), ("count", (), (0, 1)), True)
        for piece in ((False, 1), (0, True), (False, True)):
            self.check((2, ((0, 1),)), (0,), (), ("count", (), piece), False)
        self.check((4, ((2, 3),)), (0, 1, 2), (0, 1), ("count", (0, 1), (2, 3)), True)
        for lock in ((False, 1), (0, True), (False, True)):
            self.check((4, ((2, 3),)), (0, 1, 2), (0, 1), ("count", lock, (2, 3)), False)

    def test_lists(self):
        self.check(PATH_4, (0, 2), (0, 3), ["plan", ((2, 3),)], False)
        self.check(PATH_4, (0, 2), (0, 3), ("plan", [(2, 3)]), False)
        self.check(PATH_4, (0, 2), (0, 3), ("plan", ([2, 3],)), False)
        self.check(PATH_3, (0, 2), (), ["lock", 0, (0, 2)], False)
        self.check(PATH_3, (0, 2), (), ("lock", 0, [0, 2]), False)
        self.check(KITE_7, (0, 2, 3), (0, 2, 5), ["count", (0, 2), (3, 4)], False)
        self.check(KITE_7, (0, 2, 3), (0, 2, 5), ("count", [0, 2], (3, 4)), False)
        self.check(KITE_7, (0, 2, 3), (0, 2, 5), ("count", (0, 2), [3, 4]), False)

    def test_other_words(self):
        for word in ["", "Plan", "plan ", "locks", "Count", "rigid", "moves", b"plan", None, 0, True, ("plan",)]:
            self.check(PATH_4, (0, 2), (0, 2), (word, ()), False)
            self.check(PATH_3, (0, 2), (), (word, 0, (0, 2)), False)
            self.check(KITE_7, (0, 2, 3), (0, 2, 5), (word, (0, 2), (3, 4)), False)

    def test_other_lengths(self):
        self.check(PATH_4, (0, 2), (0, 2), ("plan",), False)
        self.check(PATH_4, (0, 2), (0, 2), ("plan", (), ()), False)
        self.check(PATH_3, (0, 2), (), ("lock", (0, 2)), False)
        self.check(PATH_3, (0, 2), (), ("lock", 0, (0, 2), ()), False)
        self.check(KITE_7, (0, 2, 3), (0, 2, 5), ("count", (3, 4)), False)
        self.check(KITE_7, (0, 2, 3), (0, 2, 5), ("count", (0, 2), (3, 4), (5, 6)), False)

    def test_one_part_replaced(self):
        others = odd_values() + odd_numbers(7) + [0, 1, 2, 3, 5, "plan", "lock", "count"]
        cases = [
            (PATH_4, (0, 2), (1, 3)), (PATH_4, (0,), (1,)), (PATH_3, (0, 2), (0,)), (PATH_3, (1,), (0, 2)),
            (KITE_7, (0, 2, 3), (0, 2, 5)), ((2, ((0, 1),)), (0,), ()), ((2, ((0, 1),)), (), ()),
            ((2, ((0, 1),)), (1,), (0,)), ((2, ()), (0, 1), ()), ((2, ()), (), (0, 1)), (TWO_PATHS, (0,), (3,)),
            ((4, ((2, 3),)), (0, 1, 2), (0, 1)),
        ]
        for case in cases:
            for value in with_one_part_replaced(find_certificate(*case), others):
                self.check_words(*case, value)

    def test_any_value(self):
        cases = [(PATH_4, (0, 2), (1, 3)), (PATH_3, (0, 2), (0,)), (KITE_7, (0, 2, 3), (0, 2, 5)),
                 (CATERPILLAR_12, (6, 8), (6, 8)), ((0, ()), (), ()), ((2, ((0, 1),)), (0,), ())]
        for value in odd_values() + odd_numbers(3) + [0, 1, 2, "plan", "lock", "count"]:
            for whole in (value, (value,), (value, value), (value, value, value), ("plan", value), ("plan", (value,)),
                          ("lock", value, value), ("lock", 0, value), ("lock", 1, value), ("count", value, value),
                          ("count", (), value), ("count", value, (0, 1)), ("lock", 0, (value,)),
                          ("count", (value,), ()), ("count", (), (value,)), ("plan", ((value, value),))):
                for case in cases:
                    self.check_words(*case, whole)
