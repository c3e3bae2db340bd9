"""Points 7, 9 and 10: which words an expression matches."""

import random
import unittest

from nodoubt.expressions import is_long, matches
from tests.helper import (
    LARGEST, LONGEST, NO_WORDS, NOT_LONG, all_expressions, assert_bad_values, grown, leaf_letters,
    picked_word, right_by_cuts, right_words, words_about, words_up_to, wrapped,
)

ALL_WORDS = words_up_to(4)


class Matches(unittest.TestCase):
    def check(self, expression, words):
        right = right_words(expression, 4)
        for word in words:
            self.assertIs(matches(expression, word), word in right, (expression, word))

    def test_small_ones_with_all_words(self):
        for expression in all_expressions(4, ["a", "b", ""]):
            self.check(expression, ALL_WORDS)

    def test_five_parts(self):
        words = words_up_to(4, "ab")
        for expression in all_expressions(5, ["a", "b", ""]):
            self.check(expression, words)

    def test_larger_ones_with_all_words(self):
        numbers = random.Random(7)
        for _ in range(120):
            self.check(grown(numbers, numbers.randint(5, 24)), ALL_WORDS)

    def test_longer_words(self):
        numbers = random.Random(77)
        told = {True: 0, False: 0}
        for _ in range(150):
            expression = grown(numbers, numbers.randint(10, 200))
            if is_long(expression):
                for word in words_about(expression, numbers):
                    right = right_by_cuts(expression, word)
                    self.assertIs(matches(expression, word), right, (expression, word))
                    told[right] += len(word) > 4
        self.assertGreater(min(told.values()), 500)

    def test_picked_words(self):
        numbers = random.Random(78)
        for _ in range(200):
            expression = grown(numbers, numbers.randint(10, 100))
            word = picked_word(expression, numbers)
            if is_long(expression) and len(word) <= 24:
                self.assertIs(matches(expression, word), True, (expression, word))

    def test_many_and_maybe_of_what_matches_the_empty_word(self):
        inners = ["", ("maybe", "a"), ("many", "a"), ("or", ("", "a")), ("join", (("maybe", "a"), ("many", "b")))]
        inners += [("join", ("", "")), ("or", ("", "")), ("many", ""), ("maybe", ""), ("join", ("", ("maybe", "a")))]
        for inner in inners:
            for word in ("maybe", "many"):
                self.check((word, inner), ALL_WORDS)
                self.check(("join", ((word, inner), "b", (word, inner))), ALL_WORDS)
                self.check(("many", ("join", ((word, inner), "b"))), ALL_WORDS)
                for outer in ("maybe", "many"):
                    self.check((outer, (word, inner)), ALL_WORDS)

    def test_words_of_24_letters(self):
        self.assertIs(matches(wrapped("many", 40, "a"), "a" * 24), True)
        self.assertIs(matches(wrapped("many", 40, "a"), "a" * 23 + "b"), False)
        self.assertIs(matches(wrapped("maybe", 40, "a"), "a" * 24), False)
        self.assertIs(matches(("join", (("maybe", "a"),) * 40), "a" * 24), True)
        self.assertIs(matches(("join", (("maybe", "a"),) * 39 + ("b",)), "a" * 23 + "b"), True)
        self.assertIs(matches(("join", (("maybe", "a"),) * 39 + ("b",)), "a" * 24), False)
        self.assertIs(matches(("join", (("maybe", "a"),) * 23), "a" * 24), False)
        self.assertIs(matches(("join", (("many", "a"),) * 40), "a" * 24), True)
        self.assertIs(matches(("join", (("many", "a"),) * 40), "a" * 23 + "c"), False)
        self.assertIs(matches(("many", ("or", ("a",) * 40)), "a" * 23 + "d"), False)
        self.assertIs(matches(("many", ("or", ("a",) * 39 + ("d",))), "a" * 23 + "d"), True)
        self.assertIs(matches(LARGEST, "a" * 24), True)
        self.assertIs(matches(LARGEST, "a" * 23 + "b"), False)
        self.assertIs(matches(("join", ("a",) * 24), "a" * 24), True)
        self.assertIs(matches(("join", ("a",) * 25), "a" * 24), False)

    def test_deep_and_long_together(self):
        nest = "a"
        for _ in range(20):
            nest = ("many", ("join", (nest, "b")))
        self.assertTrue(is_long(nest))
        self.assertIs(matches(nest, "b" * 24), True)
        self.assertIs(matches(nest, "a" + "b" * 23), True)
        self.assertIs(matches(nest, "b" * 23 + "a"), False)
        self.assertIs(matches(nest, "a" * 24), False)
        wide = wrapped("many", 37, ("join", (("or", ("a", "b")),) * 8 + (("or", ("a", "c")),) * 12))
        self.assertTrue(is_long(wide))
        self.assertIs(matches(wide, "ab" * 4 + "ca" * 6), True)
        self.assertIs(matches(wide, "ab" * 4 + "ca" * 6 + "a"), False)
        self.assertIs(matches(wide, ""), True)

    def test_empty_word(self):
        # Every expression matches some word; the empty one alone if it has no places.
        for expression in all_expressions(4, ["a", "b", ""]):
            right = {word for word in words_up_to(4, "ab") if matches(expression, word)}
            self.assertTrue(right)
            self.assertEqual(right == {""}, leaf_letters(expression) == "")

    def test_longest_with_the_empty_word(self):
        told = [matches(expression, "") for expression in LONGEST]
        self.assertEqual(told, [False, True, False, False, False, True, True, True, True])

    def test_bad_values(self):
        good = {"expression": "a", "word": "a"}
        wrong = {"expression": NOT_LONG, "word": NO_WORDS}
        assert_bad_values(self, matches, ["expression", "word"], good, wrong)

    def test_nothing_good_is_refused(self):
        for expression in LONGEST:
            for word in ("", "a", "d" * 24, "abcd" * 6):
                self.assertIn(matches(expression, word), (True, False))
