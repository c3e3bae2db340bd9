"""Points 3, 5, 6 and 9: what expressions, long expressions and words are."""

import random
import unittest
from itertools import product

from nodoubt.expressions import is_expression, is_long, is_word, places, sizes
from tests.helper import (
    LARGEST, LONGEST, NO_EXPRESSIONS, NO_WORDS, NOT_LONG, STRANGE, all_expressions, assert_bad_values,
    deep_list, deep_row, deep_tuple, depth, grown, leaf_letters, part_count, words_up_to, wrapped,
)

# (within the bounds, one more) of 8 places, 24 parts and 6 deep.
SHORT_BOUNDS = [
    (("join", ("a",) * 8), ("join", ("a",) * 9)),
    (("or", ("a",) * 8), ("or", ("a",) * 9)),
    (("join", ("a", "b") + ("c",) * 6), ("join", ("a", "b") + ("c",) * 7)),
    (("join", (("or", ("a",) * 4), ("or", ("b",) * 4))), ("join", (("or", ("a",) * 4), ("or", ("b",) * 5)))),
    (("many", ("join", ("a",) * 8)), ("many", ("join", ("a",) * 9))),
    (("or", ("",) * 23), ("or", ("",) * 24)),
    (("join", ("",) * 23), ("join", ("",) * 24)),
    (("or", ("a",) * 8 + ("",) * 15), ("or", ("a",) * 8 + ("",) * 16)),
    (("join", (("or", ("",) * 11), ("or", ("",) * 10))), ("join", (("or", ("",) * 11), ("or", ("",) * 11)))),
    (("or", (("maybe", "a"),) * 8 + ("",) * 7), ("or", (("maybe", "a"),) * 8 + ("",) * 8)),
    (wrapped("maybe", 6, "a"), wrapped("maybe", 7, "a")),
    (wrapped("many", 6, ""), wrapped("many", 7, "")),
    (("or", ("a", wrapped("maybe", 5, "b"))), ("or", ("a", wrapped("maybe", 6, "b")))),
    (("join", (wrapped("many", 5, "b"), "")), ("join", (wrapped("many", 6, "b"), ""))),
    (
        ("or", (wrapped("many", 5, "a"),) + ("b",) * 7 + ("",) * 10),
        ("or", (wrapped("many", 5, "a"),) + ("b",) * 7 + ("",) * 11),
    ),
]

# The same of 40 places, 200 parts and 40 deep.
LONG_BOUNDS = [
    (("join", ("a",) * 40), ("join", ("a",) * 41)),
    (("or", ("d",) * 40), ("or", ("d",) * 41)),
    (("join", (("or", ("a",) * 20), ("or", ("b",) * 20))), ("join", (("or", ("a",) * 20), ("or", ("b",) * 21)))),
    (("or", ("",) * 199), ("or", ("",) * 200)),
    (("join", ("",) * 199), ("join", ("",) * 200)),
    (("or", ("a",) * 40 + ("",) * 159), ("or", ("a",) * 40 + ("",) * 160)),
    (("join", (("or", ("",) * 99), ("or", ("",) * 98))), ("join", (("or", ("",) * 99), ("or", ("",) * 99)))),
    (wrapped("maybe", 40, "a"), wrapped("maybe", 41, "a")),
    (wrapped("many", 40, ""), wrapped("many", 41, "")),
    (("or", ("a", wrapped("maybe", 39, "b"))), ("or", ("a", wrapped("maybe", 40, "b")))),
    (LARGEST, ("or", LARGEST[1] + ("",))),
    (LARGEST, ("many", LARGEST)),
    (LARGEST, ("or", LARGEST[1][:-1] + ("a",))),
]


class Forms(unittest.TestCase):
    def assert_same(self, function, value, expected):
        # Not equal alone: 1 and 0 are equal to True and False.
        self.assertIs(function(value), expected)

    def test_letters_and_empty(self):
        for leaf in ("a", "b", "c", "d", ""):
            self.assert_same(is_expression, leaf, True)
            self.assert_same(is_long, leaf, True)

    def test_all_small_ones(self):
        for expression in all_expressions(4, ["a", "b", "c", "d", ""]):
            self.assert_same(is_expression, expression, True)
            self.assert_same(is_long, expression, True)

    def test_rows_in_one_another(self):
        for one, other in product(("join", "or"), repeat=2):
            for outer in (("a", (other, ("b", "c"))), ((other, ("b", "c")), "a"), ("a", (other, ("b", "c")), "")):
                self.assert_same(is_expression, (one, outer), one != other)
                self.assert_same(is_long, (one, outer), one != other)
            for between in ("maybe", "many"):
                value = (one, ("a", (between, (other, ("b", "c")))))
                self.assert_same(is_expression, value, True)
            self.assert_same(is_expression, (one, (one, ("a", "b"))), False)

    def test_row_of_the_same_word_further_in(self):
        inner = ("or", ("a", ("join", ("b", ("or", ("c", "d"))))))
        self.assert_same(is_expression, inner, True)
        self.assert_same(is_expression, ("join", ("a", inner)), True)
        self.assert_same(is_expression, ("or", ("a", inner)), False)

    def test_no_expressions(self):
        for at, value in enumerate(NO_EXPRESSIONS):
            with self.subTest(at=at):
                self.assert_same(is_expression, value, False)
                self.assert_same(is_long, value, False)

    def test_no_expressions_within_others(self):
        for at, value in enumerate(NO_EXPRESSIONS):
            with self.subTest(at=at):
                for around in (("maybe", value), ("many", value), ("or", ("maybe", value))):
                    self.assert_same(is_expression, around, False)
                    self.assert_same(is_long, around, False)
                for row in (("a", value), (value, "a"), ("a", "", value, "b")):
                    for word in ("join", "or"):
                        self.assert_same(is_expression, (word, row), False)
                        self.assert_same(is_long, (word, row), False)

    def test_not_long(self):
        for at, value in enumerate(NOT_LONG):
            with self.subTest(at=at):
                self.assert_same(is_long, value, False)
                self.assert_same(is_expression, value, False)

    def test_bounds(self):
        for at, (within, more) in enumerate(SHORT_BOUNDS):
            with self.subTest(at=at):
                self.assert_same(is_expression, within, True)
                self.assert_same(is_expression, more, False)
                self.assert_same(is_long, within, True)
                self.assert_same(is_long, more, True)

    def test_long_bounds(self):
        for at, (within, more) in enumerate(LONG_BOUNDS):
            with self.subTest(at=at):
                self.assert_same(is_long, within, True)
                self.assert_same(is_long, more, False)
                self.assert_same(is_expression, within, False)
                self.assert_same(is_expression, more, False)

    def test_bounds_by_counting(self):
        numbers = random.Random(6)
        for _ in range(600):
            value = grown(numbers, numbers.randint(1, 260))
            told = (len(leaf_letters(value)), depth(value), part_count(value))
            short = told[0] <= 8 and told[1] <= 6 and told[2] <= 24
            self.assert_same(is_expression, value, short)
            self.assert_same(is_long, value, told[0] <= 40 and told[1] <= 40 and told[2] <= 200)

    def test_nested_deep(self):
        for value in (deep_tuple(5000), deep_list(5000), deep_row(5000), ("many", deep_row(5000))):
            self.assert_same(is_expression, value, False)
            self.assert_same(is_long, value, False)
            self.assert_same(is_word, value, False)

    def test_many_by_sharing(self):
        # Of few objects, but with more parts than could be gone through.
        value = "a"
        for times in range(3000):
            value = (("or", "join")[times % 2], (value, value))
        self.assert_same(is_expression, value, False)
        self.assert_same(is_long, value, False)
        wide = ("a",) * 100
        for times in range(30):
            wide = ((("or", "join")[times % 2], wide),) * 100
        self.assert_same(is_long, ("or", wide), False)

    def test_strange_values(self):
        for at, value in enumerate(STRANGE):
            with self.subTest(at=at):
                plain = isinstance(value, str) and value in ("", "a")
                self.assert_same(is_expression, value, plain)
                self.assert_same(is_long, value, plain)
                self.assert_same(is_word, value, isinstance(value, str) and value in ("", "a", "ab"))


class Words(unittest.TestCase):
    def test_words(self):
        for word in words_up_to(4):
            self.assertIs(is_word(word), True)
        for word in ("a" * 24, "abcd" * 6, "dcba" * 5):
            self.assertIs(is_word(word), True)

    def test_no_words(self):
        for at, value in enumerate(NO_WORDS):
            with self.subTest(at=at):
                self.assertIs(is_word(value), False)

    def test_bound(self):
        for letter in "abcd":
            self.assertIs(is_word(letter * 24), True)
            self.assertIs(is_word(letter * 25), False)

    def test_each_letter_counts(self):
        for at in range(24):
            for letter in "eABD ?*.(|)0":
                self.assertIs(is_word("a" * at + letter + "b" * (23 - at)), False)
        for number in list(range(0, 97)) + list(range(101, 1000)):
            self.assertIs(is_word("a" + chr(number)), False)
            self.assertIs(is_expression(chr(number)), False)


class PlacesAndSizes(unittest.TestCase):
    def check(self, expression):
        self.assertEqual(places(expression), leaf_letters(expression))
        told = sizes(expression)
        self.assertEqual(told, (len(leaf_letters(expression)), depth(expression), part_count(expression)))
        self.assertIs(type(told), tuple)

    def test_small_ones(self):
        for expression in all_expressions(5, ["a", "c", ""]):
            self.check(expression)

    def test_larger_ones(self):
        numbers = random.Random(9)
        for _ in range(300):
            expression = grown(numbers, numbers.randint(1, 60))
            if is_long(expression):
                self.check(expression)

    def test_longest(self):
        for expression in LONGEST:
            self.check(expression)
        self.assertEqual(sizes(LARGEST), (40, 40, 200))
        self.assertEqual(places(LARGEST), "a" + "b" * 39)

    def test_bad_values(self):
        for function in (places, sizes):
            assert_bad_values(self, function, ["expression"], {}, {"expression": NOT_LONG})
