"""forest_text, slides_text, parse_forest and parse_slides ([14])."""

import re
import unittest
from random import Random

from tests.models import outcome
from tests.samples import (
    BARE_12, LARGER_FORESTS, PATH_12, STAR_12, TREES_12, has_cycle, odd_values, small_forests,
)
from treelamps.boards import Board
from treelamps.errors import BadText
from treelamps.texts import forest_text, parse_forest, parse_slides, slides_text

NUMBER = "(0|[1-9][0-9]?)"
OTHER_DIGITS = ("\u0663", "\u00b2", "\uff11", "\u2460", "\u00bd", "\u096b")
WORDS = ("-1", "none", " none", "none ", "00", "  ", "0-1 ", " 0-1", "1e1")
SIGNS = tuple("0123456789:->+.,_x \n\t\r") + WORDS + OTHER_DIGITS
FORESTS = tuple(small_forests(4)) + LARGER_FORESTS + ((0, ()), (1, ()), (5, ((0, 4),)))
PAIRS_99 = tuple((u, v) for u in range(100) for v in range(100))


def forest_by_words(text):
    """What parse_forest does with a text: ("returned", forest) or ("BadText", index)."""
    words = text.split(" ")
    if words[0] not in [f"{n}:" for n in range(13)]:
        return ("BadText", 0)
    n = int(words[0][:-1])
    if len(words) == 1:
        return ("BadText", 1)
    if words[1] == "none":
        return ("BadText", 2) if len(words) > 2 else ("returned", (n, ()))
    edges = []
    for index, word in enumerate(words[1:], 1):
        found = re.fullmatch(NUMBER + "-" + NUMBER, word)
        if not found:
            return ("BadText", index)
        a, b = int(found[1]), int(found[2])
        if not a < b < n or (edges and (a, b) <= edges[-1]) or has_cycle(edges + [(a, b)]):
            return ("BadText", index)
        edges.append((a, b))
    return ("returned", (n, tuple(edges)))


def slides_by_words(text):
    """What parse_slides does with a text: ("returned", slides) or ("BadText", index)."""
    if text == "none":
        return ("returned", ())
    words = text.split(" ")
    for index, word in enumerate(words):
        if not re.fullmatch(NUMBER + ">" + NUMBER, word):
            return ("BadText", index)
    return ("returned", tuple(tuple(int(part) for part in word.split(">")) for word in words))


def changed_texts(text):
    """The text with one character left out or replaced, something put in, or words left out, doubled or exchanged."""
    for at in range(len(text) + 1):
        yield text[:at]
        yield text[at:]
        yield text[:at] + text[at + 1:]
        for sign in SIGNS:
            yield text[:at] + sign + text[at:]
            yield text[:at] + sign + text[at + 1:]
    words = text.split(" ")
    for at in range(len(words)):
        word = words[at]
        for part in ([], [word, word], ["none"], [""], ["none", word], [word, "none"], words[at + 1:at + 2]):
            yield " ".join(words[:at] + part + words[at + 1:])


class TextCase(unittest.TestCase):
    def check(self, function, text, expected):
        self.assertEqual(repr(outcome(function, text)), repr(expected), (function.__name__, text))

    def check_values(self, function):
        """Values that are no texts."""
        for value in odd_values() + [0, 3, 10 ** 29, ["3: none"], ("none",), Board((0, ()), ())]:
            if not isinstance(value, str):
                with self.assertRaises(BadText) as caught:
                    function(value)
                self.assertIs(type(caught.exception), BadText)
                self.assertIsNone(caught.exception.index)


class ForestTextTest(TextCase):
    def test_and_back(self):
        for forest in FORESTS:
            text = forest_text(forest)
            self.check(parse_forest, text, ("returned", forest))

    def test_by_the_words(self):
        for forest in FORESTS:
            n, edges = forest
            words = [str(a) + "-" + str(b) for a, b in edges] if edges else ["none"]
            self.assertEqual(forest_text(forest), str(n) + ": " + " ".join(words))

    def test_known_ones(self):
        self.assertEqual(forest_text((0, ())), "0: none")
        self.assertEqual(forest_text(BARE_12), "12: none")
        self.assertEqual(forest_text((2, ((0, 1),))), "2: 0-1")
        self.assertEqual(forest_text((12, ((0, 11), (9, 10)))), "12: 0-11 9-10")
        self.assertEqual(forest_text(PATH_12), "12: 0-1 1-2 2-3 3-4 4-5 5-6 6-7 7-8 8-9 9-10 10-11")


class ParseForestTest(TextCase):
    def test_changed_texts(self):
        for forest in FORESTS[::7] + ((0, ()), (1, ()), STAR_12, TREES_12):
            for text in changed_texts(forest_text(forest)):
                self.check(parse_forest, text, forest_by_words(text))

    def test_texts_changed_twice(self):
        draw = Random(1)
        for forest in (BARE_12, STAR_12, TREES_12, (4, ((0, 1), (1, 2), (2, 3))), (0, ())):
            texts = sorted(set(changed_texts(forest_text(forest))))
            for first in draw.sample(texts, 25):
                seconds = sorted(set(changed_texts(first)))
                for text in draw.sample(seconds, min(60, len(seconds))):
                    self.check(parse_forest, text, forest_by_words(text))

    def test_what_is_accepted_is_the_text_of_the_result(self):
        for forest in FORESTS[::11]:
            for text in changed_texts(forest_text(forest)):
                kind, value = outcome(parse_forest, text)
                self.assertEqual(kind == "returned" and forest_text(value) != text, False, text)

    def test_values_that_are_no_texts(self):
        self.check_values(parse_forest)
        for value in odd_values():
            if isinstance(value, str):
                self.check(parse_forest, value, ("BadText", 0))

    def test_word_0(self):
        for text in ("", " ", ":", ": none", "3", "3 none", "3:: none", "13: none", "03: none", "00: none", "-1: none",
                     "+3: none", "100: none", " 3: none", "3 : none", "3:none", "none", "none: none", "3:\n none",
                     "\n3: none", "3; none", "\uff13: none", "\u00b2: none", "3:0-1", "x", "0x3: none", "1_0: none"):
            self.check(parse_forest, text, ("BadText", 0))

    def test_word_0_alone(self):
        for n in range(13):
            self.check(parse_forest, f"{n}:", ("BadText", 1))
            self.check(parse_forest, f"{n}: ", ("BadText", 1))

    def test_none_in_each_place(self):
        self.check(parse_forest, "4: none", ("returned", (4, ())))
        self.check(parse_forest, "4: none 0-1", ("BadText", 2))
        self.check(parse_forest, "4: none none", ("BadText", 2))
        self.check(parse_forest, "4: none ", ("BadText", 2))
        self.check(parse_forest, "4: 0-1 none", ("BadText", 2))
        self.check(parse_forest, "4: 0-1 1-2 none", ("BadText", 3))
        self.check(parse_forest, "4: 0-1 none 1-2", ("BadText", 2))
        self.check(parse_forest, "none 4: 0-1", ("BadText", 0))
        self.check(parse_forest, "4: None", ("BadText", 1))
        self.check(parse_forest, "4: none\n", ("BadText", 1))
        self.check(parse_forest, "4:  none", ("BadText", 1))

    def test_words_that_are_no_pairs(self):
        for word in ("", "0", "-", "0-", "-1", "0-1-2", "0--1", "0>1", "0,1", "0-01", "00-1", "+0-1", "0-+1", "0-1\n",
                     "\n0-1", "0\n-1", "0-1:", "(0, 1)", "a-b", "0-100", "000-1", "\u0660-1", "0-\u00b9", "0-\uff11",
                     "x", "0\u20131", "0 - 1"):
            self.check(parse_forest, "4: " + word, ("BadText", 1))
            self.check(parse_forest, "4: 0-2 " + word, ("BadText", 2))
            self.check(parse_forest, "4: 0-2 " + word + " 1-3", ("BadText", 2))

    def test_pairs_that_are_no_edges(self):
        for word in ("1-0", "1-1", "0-4", "4-5", "0-12", "0-99", "3-0"):
            self.check(parse_forest, "4: " + word, ("BadText", 1))
            self.check(parse_forest, "4: 0-1 1-2 " + word, ("BadText", 3))
        self.check(parse_forest, "0: 0-1", ("BadText", 1))
        self.check(parse_forest, "1: 0-0", ("BadText", 1))
        self.check(parse_forest, "12: 11-12", ("BadText", 1))

    def test_wrong_order(self):
        self.check(parse_forest, "4: 1-2 0-1", ("BadText", 2))
        self.check(parse_forest, "4: 0-1 0-1", ("BadText", 2))
        self.check(parse_forest, "4: 0-2 0-1 0-3", ("BadText", 2))
        self.check(parse_forest, "12: 0-10 0-9", ("BadText", 2))

    def test_order_by_numbers(self):
        self.check(parse_forest, "12: 0-9 0-10", ("returned", (12, ((0, 9), (0, 10)))))
        self.check(parse_forest, "12: 2-3 10-11", ("returned", (12, ((2, 3), (10, 11)))))

    def test_cycles(self):
        self.check(parse_forest, "3: 0-1 0-2 1-2", ("BadText", 3))
        self.check(parse_forest, "5: 0-1 0-2 0-3 1-3 3-4", ("BadText", 4))
        self.check(parse_forest, forest_text(PATH_12).replace("0-1", "0-1 0-11"), ("BadText", 12))

    def test_the_first_wrong_word(self):
        self.check(parse_forest, "3: 1-0 x", ("BadText", 1))
        self.check(parse_forest, "3: 0-1 0-2 1-2 x", ("BadText", 3))
        self.check(parse_forest, "3: 0-1 x 0-1", ("BadText", 2))
        self.check(parse_forest, "3: 1-2 0-1 x", ("BadText", 2))
        self.check(parse_forest, "13: x", ("BadText", 0))

    def test_two_spaces(self):
        self.check(parse_forest, "3: 0-1  1-2", ("BadText", 2))
        self.check(parse_forest, "3:  0-1", ("BadText", 1))
        self.check(parse_forest, "3: 0-1 ", ("BadText", 2))
        self.check(parse_forest, " 3: 0-1", ("BadText", 0))


class SlidesTextTest(TextCase):
    def test_every_pair(self):
        for pair in PAIRS_99:
            text = slides_text((pair,))
            self.assertEqual(text, str(pair[0]) + ">" + str(pair[1]))
            self.assertEqual(parse_slides(text), (pair,))

    def test_many_pairs(self):
        draw = Random(2)
        for many in [*range(8), 50, 200]:
            slides = tuple(draw.choice(PAIRS_99) for _ in range(many))
            text = " ".join(f"{u}>{v}" for u, v in slides) or "none"
            self.assertEqual(slides_text(slides), text)
            self.check(parse_slides, text, ("returned", slides))

    def test_known_ones(self):
        self.assertEqual(slides_text(()), "none")
        self.assertEqual(slides_text(((2, 3), (0, 1))), "2>3 0>1")
        self.assertEqual(slides_text(((10, 11), (99, 0))), "10>11 99>0")


class ParseSlidesTest(TextCase):
    def test_changed_texts(self):
        for slides in ((), ((0, 1),), ((2, 3), (0, 1)), ((10, 11), (9, 10), (99, 0)), ((5, 5), (0, 0))):
            for text in changed_texts(slides_text(slides)):
                self.check(parse_slides, text, slides_by_words(text))

    def test_texts_changed_twice(self):
        draw = Random(3)
        for slides in ((), ((0, 1),), ((2, 13), (0, 1), (99, 98))):
            texts = sorted(set(changed_texts(slides_text(slides))))
            for first in draw.sample(texts, 40):
                seconds = sorted(set(changed_texts(first)))
                for text in draw.sample(seconds, min(60, len(seconds))):
                    self.check(parse_slides, text, slides_by_words(text))

    def test_values_that_are_no_texts(self):
        self.check_values(parse_slides)

    def test_none(self):
        self.check(parse_slides, "none", ("returned", ()))
        self.check(parse_slides, "none none", ("BadText", 0))
        self.check(parse_slides, "none 0>1", ("BadText", 0))
        self.check(parse_slides, "0>1 none", ("BadText", 1))
        self.check(parse_slides, "none ", ("BadText", 0))
        self.check(parse_slides, " none", ("BadText", 0))
        self.check(parse_slides, "None", ("BadText", 0))
        self.check(parse_slides, "none\n", ("BadText", 0))

    def test_words_that_are_no_pairs(self):
        for word in ("", "0", ">", "0>", ">1", "0>1>2", "0>>1", "0-1", "0>01", "00>1", "+0>1", "0>-1", "0>1\n", "\n0>1",
                     "0>100", "100>0", "a>b", "(0, 1)", "\u0660>1", "0>\u00b9", "0>\uff11", "0 > 1"):
            self.check(parse_slides, word, ("BadText", 0))
            self.check(parse_slides, "3>4 " + word, ("BadText", 1))
            self.check(parse_slides, "3>4 " + word + " 5>6 x", ("BadText", 1))

    def test_spaces(self):
        self.check(parse_slides, "0>1  1>2", ("BadText", 1))
        self.check(parse_slides, "0>1 1>2 ", ("BadText", 2))
        self.check(parse_slides, " 0>1", ("BadText", 0))

    def test_pairs_that_are_no_slides_of_any_forest(self):
        self.check(parse_slides, "3>3 99>98 0>0", ("returned", ((3, 3), (99, 98), (0, 0))))
