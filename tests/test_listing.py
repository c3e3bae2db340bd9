"""Points 57, 58 and 60: right words in order, and their numbers."""

import random
import unittest

from nodoubt.errors import BadValue, TooLarge
from nodoubt.expressions import matches
from nodoubt.listing import count_up_to, nth_word, number_of, words_from
from tests.helper import (
    HUGE, LARGE, LETTERS, NOT_SHORT, NO_WORDS, TOO_LARGE, all_expressions, assert_bad_values, deep_list, deep_row,
    deep_tuple, larger_ones, right_words, words_up_to,
)

SMALL = all_expressions(4, ["a", "b", ""]) + larger_ones(57, 150, 24, False)

EVERY = ("many", ("or", ("a", "b", "c", "d")))

# As many words of each length as there are ways to lay a row of ones and twos.
ROWS = ("many", ("or", ("b", ("join", ("a", "c")))))


def in_order(words):
    return sorted(words, key=lambda word: (len(word), word))


def rows_up_to(length):
    """All right words of ROWS with at most so many letters, in order."""
    by_length = [[""], ["b"]]
    while len(by_length) <= length:
        by_length.append(["b" + word for word in by_length[-1]] + ["ac" + word for word in by_length[-2]])
    return [word for words in by_length for word in sorted(words)]


def word_of_number(number):
    """The word of EVERY with the number."""
    word = ""
    while number > 0:
        number, letter = divmod(number - 1, 4)
        word = LETTERS[letter] + word
    return word


class AgainstLists(unittest.TestCase):
    def test_words_of_four_letters(self):
        for expression in SMALL:
            right = in_order(right_words(expression, 4))
            for length in range(5):
                told = sum(len(word) <= length for word in right)
                self.assertEqual(count_up_to(expression, length), told, (expression, length))
            for index, word in enumerate(right):
                self.assertEqual(nth_word(expression, index), word, (expression, index))
                self.assertEqual(number_of(expression, word), index, (expression, word))
            for word in words_up_to(3):
                if word not in right:
                    self.assertIsNone(number_of(expression, word))
            for index in range(0, len(right), 3):
                for many in (0, 1, 2, 3, 20):
                    told = right[index:index + many]
                    if len(told) == many:
                        self.assertEqual(words_from(expression, index, many), told, (expression, index, many))

    def test_all_right_words(self):
        finite = [each for each in SMALL if "many" not in repr(each)]
        self.assertGreater(len(finite), 60)
        for expression in finite:
            right = in_order(right_words(expression, 8))
            self.assertEqual(words_from(expression, 0, 20), right[:20])
            self.assertEqual(count_up_to(expression, 24), len(right))
            self.assertEqual(count_up_to(expression, 8), len(right))
            self.assertEqual(nth_word(expression, len(right) - 1), right[-1])
            for index in (len(right), len(right) + 1, 999999, 1000000):
                self.assertIsNone(nth_word(expression, index))
                self.assertEqual(words_from(expression, index, 20), [])
            if len(right) > 1:
                self.assertEqual(words_from(expression, len(right) - 2, 20), right[-2:])

    def test_rows(self):
        right = rows_up_to(24)
        self.assertEqual(right, in_order(right))
        self.assertEqual(len(right), 196417)
        self.assertEqual(count_up_to(ROWS, 24), len(right))
        numbers = random.Random(57)
        for index in [numbers.randrange(len(right)) for _ in range(200)] + list(range(30)):
            self.assertEqual(nth_word(ROWS, index), right[index])
            self.assertEqual(number_of(ROWS, right[index]), index)
            many = numbers.randint(0, 20)
            self.assertEqual(words_from(ROWS, index, many), right[index:index + many])
        for length in range(25):
            self.assertEqual(count_up_to(ROWS, length), sum(len(word) <= length for word in right))

    def test_behind_the_last_word(self):
        right = rows_up_to(24)
        self.assertEqual(nth_word(ROWS, 196416), right[-1])
        self.assertEqual(len(right[-1]), 24)
        self.assertIsNone(nth_word(ROWS, 196417))
        self.assertIsNone(nth_word(ROWS, 1000000))
        self.assertEqual(words_from(ROWS, 196414, 20), right[-3:])
        self.assertEqual(words_from(ROWS, 196416, 20), right[-1:])
        self.assertEqual(words_from(ROWS, 196417, 20), [])
        self.assertEqual(words_from(ROWS, 196397, 20), right[-20:])
        self.assertEqual(words_from(ROWS, 196398, 20), right[-19:])


class LargeNumbers(unittest.TestCase):
    def test_up_to_a_million(self):
        numbers = random.Random(58)
        for index in [numbers.randrange(1000001) for _ in range(200)] + [0, 1, 4, 5, 999999, 1000000]:
            word = word_of_number(index)
            self.assertEqual(nth_word(EVERY, index), word)
            self.assertEqual(number_of(EVERY, word), index)
        self.assertEqual(words_from(EVERY, 1000000, 20), [word_of_number(1000000 + more) for more in range(20)])

    def test_numbers_above_a_million(self):
        self.assertEqual(number_of(EVERY, "d" * 24), (4 ** 25 - 1) // 3 - 1)
        self.assertEqual(number_of(EVERY, "a" * 24), (4 ** 24 - 1) // 3)
        self.assertEqual([count_up_to(EVERY, length) for length in range(25)],
                         [(4 ** (length + 1) - 1) // 3 for length in range(25)])
        ends = ("join", (("many", ("or", ("a", "b"))), "a"))
        self.assertEqual(number_of(ends, "b" * 23 + "a"), 2 ** 24 - 2)
        self.assertEqual(count_up_to(ends, 24), 2 ** 24 - 1)

    def test_only_words_of_at_most_24_letters(self):
        for letter in LETTERS:
            some = ("many", letter)
            self.assertEqual(nth_word(some, 24), letter * 24)
            self.assertEqual(number_of(some, letter * 24), 24)
            self.assertIsNone(nth_word(some, 25))
            self.assertIsNone(nth_word(some, 1000000))
            self.assertEqual(words_from(some, 20, 20), [letter * many for many in range(20, 25)])
            self.assertEqual(words_from(some, 25, 20), [])
            self.assertEqual(count_up_to(some, 24), 25)
        eights = ("many", ("join", ("a",) * 8))
        self.assertEqual(words_from(eights, 0, 20), ["", "a" * 8, "a" * 16, "a" * 24])
        self.assertEqual([count_up_to(eights, length) for length in (0, 7, 8, 15, 16, 23, 24)], [1, 1, 2, 2, 3, 3, 4])

    def test_40_states(self):
        right = [word for word in words_up_to(6, "ab") if matches(LARGE, word)]
        self.assertEqual(words_from(LARGE, 0, min(20, len(right))), right[:20])
        self.assertEqual(number_of(LARGE, right[-1]), len(right) - 1)
        self.assertEqual(count_up_to(LARGE, 6), len(right))


class SomeWords(unittest.TestCase):
    def test_some(self):
        some = ("join", (("maybe", "c"), ("or", ("b", "a", "a")), ("maybe", "a")))
        right = ["a", "b", "aa", "ba", "ca", "cb", "caa", "cba"]
        self.assertEqual(words_from(some, 0, 20), right)
        self.assertEqual([nth_word(some, index) for index in range(9)], right + [None])
        self.assertEqual([number_of(some, word) for word in right], list(range(8)))
        self.assertEqual(words_from(some, 2, 3), ["aa", "ba", "ca"])
        self.assertEqual([count_up_to(some, length) for length in range(5)], [0, 2, 6, 8, 8])

    def test_empty_word(self):
        self.assertEqual(words_from("", 0, 20), [""])
        self.assertEqual(nth_word("", 0), "")
        self.assertIsNone(nth_word("", 1))
        self.assertEqual(number_of("", ""), 0)
        self.assertIsNone(number_of("", "a"))
        self.assertIsNone(number_of("a", ""))
        self.assertEqual(count_up_to("", 0), 1)
        self.assertEqual(count_up_to("a", 0), 0)

    def test_kinds_and_new_lists(self):
        self.assertIs(type(words_from(EVERY, 5, 0)), list)
        self.assertEqual(words_from(EVERY, 5, 0), [])
        self.assertIs(type(number_of(EVERY, "ab")), int)
        self.assertIs(type(count_up_to("a", 3)), int)
        found = words_from(EVERY, 0, 5)
        self.assertIs(type(found), list)
        found.reverse()
        found.append("x")
        self.assertEqual(words_from(EVERY, 0, 5), ["", "a", "b", "c", "d"])
        self.assertIsNot(words_from(EVERY, 0, 5), words_from(EVERY, 0, 5))

    def test_numbers_and_words_belong_together(self):
        numbers = random.Random(59)
        for expression in SMALL[::3] + [LARGE]:
            for _ in range(4):
                index = numbers.choice((numbers.randrange(50), numbers.randrange(1000001)))
                word = nth_word(expression, index)
                if word is not None:
                    self.assertTrue(len(word) <= 24 and matches(expression, word))
                    self.assertEqual(number_of(expression, word), index)
                else:
                    self.assertLessEqual(count_up_to(expression, 24), index)


class Wrong(unittest.TestCase):
    def setUp(self):
        strange = [None, True, False, "", "1", "a", (), (0,), [], [0], 0.0, 1.5, -(10 ** 30), 10 ** 30, {},
                   deep_list(1000), deep_tuple(1000), deep_row(1000)]
        self.wrong = {"expression": NOT_SHORT, "word": NO_WORDS, "length": [-1, 25, 26, True] + strange,
                      "index": [-1, 1000001, 1000002, True] + strange, "many": [-1, 21, 22, True] + strange}
        self.good = {"expression": "a", "word": "a", "length": 0, "index": 0, "many": 0}
        self.arguments = {count_up_to: ["expression", "length"], nth_word: ["expression", "index"],
                          number_of: ["expression", "word"], words_from: ["expression", "index", "many"]}

    def test_bad_values(self):
        for function, names in self.arguments.items():
            assert_bad_values(self, function, names, self.good, self.wrong)

    def test_bounds_that_are_let(self):
        self.assertEqual((count_up_to("a", 0), count_up_to("a", 24)), (0, 1))
        self.assertEqual((nth_word("a", 0), nth_word("a", 1000000)), ("a", None))
        self.assertEqual((words_from("a", 0, 0), words_from("a", 0, 20), words_from("a", 1000000, 20)), ([], ["a"], []))
        self.assertEqual(number_of(("many", "a"), "a" * 24), 24)

    def test_too_large(self):
        for expression in TOO_LARGE:
            for function, names in self.arguments.items():
                with self.assertRaises(TooLarge) as caught:
                    function(expression, *[self.good[name] for name in names[1:]])
                self.assertEqual(caught.exception.what, "states")

    def test_bad_values_ahead_of_too_large(self):
        for function, names in self.arguments.items():
            for at, name in enumerate(names[1:], 1):
                values = [HUGE] + [self.good[each] for each in names[1:]]
                values[at] = self.wrong[name][0]
                with self.assertRaises(BadValue) as caught:
                    function(*values)
                self.assertEqual(caught.exception.name, name)
