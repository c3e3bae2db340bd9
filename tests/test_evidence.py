"""Points 24 and 25: evidence that a word is wrong, and its judge."""

import random
import unittest
from itertools import product

from nodoubt.expressions import is_long, matches
from nodoubt.markings import (
    accepts_wrong, candidates, first_places, following, is_marking, last_places, wrong_evidence,
)
from tests.helper import (
    LARGEST, LONGEST, NO_WORDS, NOT_LONG, STRANGE, all_expressions, assert_bad_values, deep_row, grown,
    leaf_letters, right_words, words_about, words_up_to, wrapped,
)

CHAIN = ("join", ("a", "a", "a", "a"))


def is_accepted(expression, word, rows):
    """What point 24 says of rows that are tuples of integers."""
    letters = leaf_letters(expression)
    if word == "":
        return rows == () and "" not in right_words(expression, 0)
    if len(rows) != len(word):
        return False
    needed = set(first_places(expression))
    for letter, row in zip(word, rows):
        if list(row) != sorted(set(row)) or any(place not in range(len(letters)) for place in row):
            return False
        if any(letters[place] != letter for place in row):
            return False
        if not {place for place in needed if letters[place] == letter} <= set(row):
            return False
        needed = {other for place in row for other in following(expression, place)}
    return not set(rows[-1]) & set(last_places(expression))


class Evidence(unittest.TestCase):
    def check(self, expression, word, right):
        evidence = wrong_evidence(expression, word)
        self.assertIs(evidence is None, right, (expression, word))
        if not right:
            self.assertIs(type(evidence), tuple)
            self.assertTrue(all(type(row) is tuple for row in evidence))
            self.assertIs(accepts_wrong(expression, word, evidence), True, (expression, word))
            self.assertTrue(is_accepted(expression, word, evidence))

    def test_small_ones(self):
        for expression in all_expressions(4, ["a", "b", ""]):
            right = right_words(expression, 3)
            for word in words_up_to(3, "abc"):
                self.check(expression, word, word in right)

    def test_longer_words(self):
        numbers = random.Random(25)
        for _ in range(80):
            expression = grown(numbers, numbers.randint(6, 120))
            if is_long(expression):
                for word in words_about(expression, numbers):
                    self.check(expression, word, matches(expression, word))

    def test_longest(self):
        many = ("many", ("or", ("a",) * 39 + ("b",)))
        self.check(many, "a" * 23 + "c", False)
        self.check(many, "a" * 23 + "b", True)
        self.check(("join", (("maybe", "a"),) * 23), "a" * 24, False)
        self.check(("join", (("maybe", "a"),) * 24), "a" * 24, True)
        self.check(LARGEST, "a" * 23 + "b", False)
        self.check(wrapped("many", 40, "a"), "b" * 24, False)
        self.check(wrapped("many", 40, ""), "a", False)

    def test_empty_word(self):
        for expression in all_expressions(4, ["a", ""]) + LONGEST:
            right = matches(expression, "")
            self.assertEqual(wrong_evidence(expression, ""), None if right else ())
            self.assertIs(accepts_wrong(expression, "", ()), not right)
            for value in ((()), ((),), ((0,),), [], "", None, False, (0,)):
                accepted = type(value) is tuple and len(value) == 0 and not right
                self.assertIs(accepts_wrong(expression, "", value), accepted)

    def test_bad_values(self):
        wrong = {"expression": NOT_LONG, "word": NO_WORDS}
        good = {"expression": "a", "word": "a"}
        assert_bad_values(self, wrong_evidence, ["expression", "word"], good, wrong)
        for last in (((0,),), None, deep_row(1000)):
            assert_bad_values(self, lambda expression, word: accepts_wrong(expression, word, last),
                              ["expression", "word"], good, wrong)


class Judge(unittest.TestCase):
    def test_all_rows(self):
        expressions = all_expressions(3, ["a", "b", ""])
        expressions += [("join", ("a", "a", "a")), ("or", ("a", ("join", ("a", "a")))), ("many", ("join", ("a", "b")))]
        for expression in expressions:
            n = len(leaf_letters(expression))
            rows = [row for many in range(3) for row in product(range(-1, n + 1), repeat=many)]
            for word in ("a", "b", "aa", "ab"):
                for value in product(rows, repeat=len(word)):
                    accepted = accepts_wrong(expression, word, value)
                    self.assertIs(accepted, is_accepted(expression, word, value), (expression, word, value))
                    # Whoever wrote it: what is accepted is so.
                    self.assertFalse(accepted and matches(expression, word))

    def test_exactly_one_kind(self):
        for expression in all_expressions(4, ["a", ""]):
            n = len(leaf_letters(expression))
            subsets = [tuple(p for p in range(n) if 1 << p & k) for k in range(1 << n)]
            for word in ("", "a", "aa"):
                marked = any(is_marking(expression, word, value) for value in product(range(n), repeat=len(word)))
                shown = any(accepts_wrong(expression, word, value) for value in product(subsets, repeat=len(word)))
                self.assertIs(marked, matches(expression, word))
                self.assertIs(shown, not marked)

    def test_more_places_than_need_be(self):
        self.assertIs(accepts_wrong(CHAIN, "a", ((0,),)), True)
        self.assertIs(accepts_wrong(CHAIN, "a", ((0, 1),)), True)
        self.assertIs(accepts_wrong(CHAIN, "a", ((0, 1, 2),)), True)
        self.assertIs(accepts_wrong(CHAIN, "a", ((0, 2),)), True)
        self.assertIs(accepts_wrong(CHAIN, "a", ((0, 3),)), False)
        self.assertIs(accepts_wrong(CHAIN, "aa", ((0,), (1,))), True)
        self.assertIs(accepts_wrong(CHAIN, "aa", ((0, 1), (1, 2))), True)
        self.assertIs(accepts_wrong(CHAIN, "aa", ((0,), (0, 1, 2))), True)
        self.assertIs(accepts_wrong(CHAIN, "aa", ((0, 3), (1,))), True)
        # What more places lead to is needed, too.
        self.assertIs(accepts_wrong(CHAIN, "aa", ((0, 1), (1,))), False)
        self.assertIs(accepts_wrong(CHAIN, "aa", ((0, 2), (1, 3))), False)

    def test_a_place_left_out(self):
        some = ("or", (("join", ("a", "b", "c")), ("join", ("a", "b", "d"))))
        self.assertIs(accepts_wrong(some, "ab", ((0, 3), (1, 4))), True)
        for value in (((0,), (1, 4)), ((3,), (1, 4)), ((), (1, 4)), ((0, 3), (1,)), ((0, 3), (4,)), ((0, 3), ()),
                      ((0,), ()), ((), ())):
            self.assertIs(accepts_wrong(some, "ab", value), False)
        self.assertIs(accepts_wrong(some, "ab", ((0,), (1,))), False)

    def test_a_place_twice_or_out_of_order(self):
        some = ("or", (("join", ("a", "b")), ("join", ("a", "b"))))
        self.assertIs(accepts_wrong(some, "a", ((0, 2),)), True)
        for row in ((2, 0), (0, 0, 2), (0, 2, 2), (0, 2, 0), (2,), (0,), (2, 2)):
            self.assertIs(accepts_wrong(some, "a", (row,)), False)
        self.assertIs(accepts_wrong(some, "aa", ((0, 2), ())), True)
        self.assertIs(accepts_wrong(some, "aa", ((2, 0), ())), False)
        self.assertIs(accepts_wrong(some, "aa", ((0, 2), (2, 0))), False)
        self.assertIs(accepts_wrong(some, "aa", ((0, 2), (0, 2))), True)

    def test_another_letter_or_no_place(self):
        some = ("join", ("a", "b", "c"))
        self.assertIs(accepts_wrong(some, "a", ((0,),)), True)
        for row in ((0, 1), (0, 2), (0, 3), (-1, 0), (0, 10 ** 30), (-3, 0), (1,), (3,)):
            self.assertIs(accepts_wrong(some, "a", (row,)), False)
        self.assertIs(accepts_wrong(some, "d", ((),)), True)
        self.assertIs(accepts_wrong(some, "d", ((0,),)), False)
        self.assertIs(accepts_wrong(some, "dd", ((), ())), True)
        self.assertIs(accepts_wrong(some, "ad", ((0,), (1,))), False)

    def test_other_lengths(self):
        for value in ((), ((0,), (1,)), ((0,), ()), ((0,), (1,), (2,))):
            self.assertIs(accepts_wrong(CHAIN, "a", value), False)
        self.assertIs(accepts_wrong(CHAIN, "aaa", ((0,), (1,), (2,))), True)
        self.assertIs(accepts_wrong(CHAIN, "aaaa", ((0,), (1,), (2,), (3,))), False)
        self.assertIs(accepts_wrong(CHAIN, "aaaaa", ((0,), (1,), (2,), (3,), ())), True)

    def test_true_and_false_are_no_places(self):
        self.assertIs(accepts_wrong(CHAIN, "aa", ((0,), (1,))), True)
        for value in (((False,), (1,)), ((0,), (True,)), ((0, True), (1, 2)), ((False, 1), (1, 2)), (True, True)):
            self.assertIs(accepts_wrong(CHAIN, "aa", value), False)

    def test_strange_values(self):
        for expression in (CHAIN, ("join", ("b", "b")), LARGEST, ("many", "a")):
            for word in ("a", "aa"):
                for at, value in enumerate(STRANGE):
                    with self.subTest(at=at, word=word):
                        self.assertIs(accepts_wrong(expression, word, value), False)

    def test_other_forms(self):
        self.assertIs(accepts_wrong(CHAIN, "a", ((0,),)), True)
        for value in ([(0,)], ([0],), (0,), ((0.0,),), (("0",),), ("0",), ({0: 0},), {0: (0,)}, (None,), True, None):
            self.assertIs(accepts_wrong(CHAIN, "a", value), False)
        value = [[0]]
        accepts_wrong(CHAIN, "a", value)
        self.assertEqual(value, [[0]])

    def test_right_words_have_no_evidence(self):
        some = ("many", ("or", ("a", ("join", ("a", "b")))))
        n = len(leaf_letters(some))
        subsets = [tuple(p for p in range(n) if 1 << p & k) for k in range(1 << n)]
        for word in ("a", "aa", "ab", "aab"):
            for value in product(subsets, repeat=len(word)):
                self.assertIs(accepts_wrong(some, word, value), False)
            self.assertIs(accepts_wrong(some, word, tuple(candidates(some, word))), False)
