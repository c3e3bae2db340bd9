"""Points 11 to 17: turned, renamed and simple expressions, and lengths."""

import random
import unittest
from itertools import permutations

from nodoubt.expressions import is_expression, is_long, matches, sizes
from nodoubt.simple import greatest_length, least_length, renamed, simple, turned
from tests.helper import (
    LARGEST, LONGEST, NOT_LONG, all_expressions, assert_bad_values, deep_list, deep_tuple, grown, leaf_letters,
    right_words, words_about, words_up_to, wrapped,
)

SMALL = all_expressions(5, ["a", "b", ""])
ORDERS = ["".join(order) for order in permutations("abcd")]
NO_ORDERS = [
    None, True, False, 0, 1234, "", "abc", "aabc", "abcc", "abce", "abcda", "ABCD", "abcdabcd", "dddd", " abc",
    "a" * 1000, ("a", "b", "c", "d"), ["a", "b", "c", "d"], [], (), b"abcd", deep_list(1000), deep_tuple(1000),
]


def larger_ones(seed, many):
    numbers = random.Random(seed)
    found = [grown(numbers, numbers.randint(4, 120)) for _ in range(many)]
    return [expression for expression in found if is_long(expression)]


class Turned(unittest.TestCase):
    def test_forms(self):
        self.assertEqual(turned("a"), "a")
        self.assertEqual(turned(""), "")
        self.assertEqual(turned(("many", ("join", ("a", "b", "c")))), ("many", ("join", ("c", "b", "a"))))
        self.assertEqual(turned(("maybe", ("or", ("a", "b", "")))), ("maybe", ("or", ("", "b", "a"))))
        deep = ("or", ("a", ("join", ("b", ("maybe", ("or", ("c", "d")))))))
        self.assertEqual(turned(deep), ("or", (("join", (("maybe", ("or", ("d", "c"))), "b")), "a")))

    def test_turned_twice(self):
        for expression in SMALL + LONGEST + larger_ones(11, 100):
            other = turned(expression)
            self.assertEqual(turned(other), expression)
            self.assertEqual(leaf_letters(other), leaf_letters(expression)[::-1])
            self.assertEqual(sizes(other), sizes(expression))

    def test_matches_words_from_the_end(self):
        for expression in all_expressions(4, ["a", "b", ""]):
            other = turned(expression)
            for word in words_up_to(4, "ab"):
                self.assertEqual(matches(other, word[::-1]), matches(expression, word))
        numbers = random.Random(12)
        for expression in larger_ones(12, 60):
            for word in words_about(expression, numbers):
                self.assertEqual(matches(turned(expression), word[::-1]), matches(expression, word))

    def test_bad_values(self):
        assert_bad_values(self, turned, ["expression"], {}, {"expression": NOT_LONG})


class Renamed(unittest.TestCase):
    def test_forms(self):
        row = ("or", ("a", "b", "c", "d", "", ("many", "a"), ("maybe", "d"), ("join", ("b", "c"))))
        other = ("or", ("c", "a", "d", "b", "", ("many", "c"), ("maybe", "b"), ("join", ("a", "d"))))
        self.assertEqual(renamed(row, "cadb"), other)

    def test_all_orders(self):
        expression = ("join", (("many", "a"), "b", ("or", ("c", "d")), ""))
        for order in ORDERS:
            one, two, three, four = order
            self.assertEqual(renamed(expression, order), ("join", (("many", one), two, ("or", (three, four)), "")))
            back = "".join("abcd"[order.index(letter)] for letter in "abcd")
            self.assertEqual(renamed(renamed(expression, order), back), expression)

    def test_matches_renamed_words(self):
        for at, expression in enumerate(all_expressions(4, ["a", "b", ""]) + larger_ones(13, 40)):
            order = ORDERS[at % 24]
            other = renamed(expression, order)
            for word in words_up_to(3):
                renamed_word = "".join(order["abcd".index(letter)] for letter in word)
                self.assertEqual(matches(other, renamed_word), matches(expression, word))

    def test_plain_order_changes_nothing(self):
        for expression in SMALL + LONGEST:
            self.assertEqual(renamed(expression, "abcd"), expression)

    def test_bad_values(self):
        good = {"expression": "a", "order": "badc"}
        assert_bad_values(self, renamed, ["expression", "order"], good, {"expression": NOT_LONG, "order": NO_ORDERS})


class Simple(unittest.TestCase):
    def check(self, pairs):
        for expression, form in pairs:
            self.assertEqual(simple(expression), form, expression)

    def test_leaves(self):
        self.check([(leaf, leaf) for leaf in ("a", "b", "c", "d", "")])

    def test_join(self):
        self.check([
            (("join", ("a", "b")), ("join", ("a", "b"))),
            (("join", ("a", "", "b")), ("join", ("a", "b"))),
            (("join", ("", "a")), "a"),
            (("join", ("", "")), ""),
            (("join", ("", "", "")), ""),
            (("join", ("a", "a")), ("join", ("a", "a"))),
            (("join", ("a", ("maybe", ""), ("many", ""), "b")), ("join", ("a", "b"))),
            (("join", (("many", ""), ("or", ("", "")))), ""),
            (("join", ("a", ("or", ("", "")))), "a"),
        ])

    def test_join_that_becomes_a_part_of_a_join(self):
        both = ("join", (("many", "a"), ("many", "b")))
        self.check([
            (("join", ("c", ("maybe", both), "d")), ("join", ("c", ("many", "a"), ("many", "b"), "d"))),
            (("join", (("or", (("join", ("a", "b")), ("join", ("a", "b")))), "c")), ("join", ("a", "b", "c"))),
            (("join", (("maybe", both), ("maybe", both))), ("join", both[1] + both[1])),
        ])

    def test_or(self):
        self.check([
            (("or", ("a", "b")), ("or", ("a", "b"))),
            (("or", ("b", "a")), ("or", ("b", "a"))),
            (("or", ("a", "a")), "a"),
            (("or", ("a", "b", "a", "b", "c")), ("or", ("a", "b", "c"))),
            (("or", ("b", "a", "b")), ("or", ("b", "a"))),
            (("or", ("", "")), ""),
            (("or", ("", "a")), ("or", ("", "a"))),
            (("or", ("a", "", "b", "")), ("or", ("a", "", "b"))),
            (("or", ("", ("maybe", "a"))), ("maybe", "a")),
            (("or", ("", ("many", "a"), "b")), ("or", (("many", "a"), "b"))),
            (("or", (("many", "a"), "", "b")), ("or", (("many", "a"), "b"))),
            (("or", ("", ("join", (("maybe", "a"), ("many", "b"))))), ("join", (("maybe", "a"), ("many", "b")))),
            (("or", ("", ("join", (("maybe", "a"), "b")))), ("or", ("", ("join", (("maybe", "a"), "b"))))),
            (("or", (("maybe", "a"), ("many", "b"))), ("or", (("maybe", "a"), ("many", "b")))),
        ])

    def test_or_of_parts_that_become_equal_or_empty(self):
        self.check([
            (("or", (("join", ("a", "")), "a", ("join", ("", "a")))), "a"),
            (("or", (("many", ("maybe", "a")), "b", ("many", ("many", "a")))), ("or", (("many", "a"), "b"))),
            (("or", (("many", ""), "a", ("maybe", ""))), ("or", ("", "a"))),
            (("or", (("join", ("", "")), ("maybe", "a"))), ("maybe", "a")),
            (("or", ("a", ("maybe", ("or", ("", "b"))))), ("or", ("a", "", "b"))),
        ])

    def test_or_that_becomes_a_part_of_an_or(self):
        inner = ("or", (("many", "a"), "b"))
        self.check([
            (("or", ("c", ("maybe", inner), "d")), ("or", ("c", ("many", "a"), "b", "d"))),
            (("or", ("b", ("maybe", inner), "")), ("or", ("b", ("many", "a")))),
            (("or", (("join", (("or", ("a", "b")), "")), "b", "a")), ("or", ("a", "b"))),
            (("or", (("join", (("or", ("a", "")), "")), "b")), ("or", ("a", "", "b"))),
            (("or", (("join", (("or", ("a", "")), "")), ("maybe", "b"))), ("or", ("a", ("maybe", "b")))),
        ])

    def test_maybe(self):
        self.check([
            (("maybe", "a"), ("maybe", "a")),
            (("maybe", ""), ""),
            (("maybe", ("maybe", "a")), ("maybe", "a")),
            (("maybe", ("many", "a")), ("many", "a")),
            (("maybe", ("or", ("a", ""))), ("or", ("a", ""))),
            (("maybe", ("join", ("a", ""))), ("maybe", "a")),
            (("maybe", ("join", (("maybe", "a"), ("many", "b")))), ("join", (("maybe", "a"), ("many", "b")))),
            (("maybe", ("join", (("maybe", "a"), "b"))), ("maybe", ("join", (("maybe", "a"), "b")))),
            (("maybe", ("or", ("a", "a"))), ("maybe", "a")),
        ])

    def test_many(self):
        self.check([
            (("many", "a"), ("many", "a")),
            (("many", ""), ""),
            (("many", ("maybe", "a")), ("many", "a")),
            (("many", ("many", "a")), ("many", "a")),
            (("many", ("many", ("maybe", ("many", ("maybe", "a"))))), ("many", "a")),
            (("many", ("join", ("", ("maybe", "b")))), ("many", "b")),
            (("many", ("or", ("a", ""))), ("many", ("or", ("a", "")))),
            (("many", ("join", ("", ""))), ""),
            (("many", ("join", (("maybe", "a"), ("maybe", "b")))),
             ("many", ("join", (("maybe", "a"), ("maybe", "b"))))),
            (("many", ("or", (("many", "a"), "", ("many", "a")))), ("many", "a")),
        ])

    def test_deep_ones(self):
        self.check([
            (wrapped("many", 40, "a"), ("many", "a")),
            (wrapped("maybe", 40, "a"), ("maybe", "a")),
            (wrapped("many", 40, ""), ""),
            (("or", ("",) * 199), ""),
            (("join", ("",) * 199), ""),
            (("or", ("a",) * 40), "a"),
            (LARGEST, ("or", (("many", "a"), "b"))),
        ])

    def test_rules_do_not_hold_for_the_simple_form(self):
        for expression in SMALL + larger_ones(14, 200):
            self.assertEqual(rules_that_hold(simple(expression)), [], expression)

    def test_same_words_and_not_greater(self):
        words = words_up_to(4, "ab")
        for expression in SMALL:
            form = simple(expression)
            right = right_words(expression, 4)
            self.assertEqual({word for word in words if matches(form, word)}, right)
            self.assertEqual(simple(form), form)
            self.assertTrue(is_expression(form))
            self.assertTrue(all(one <= other for one, other in zip(sizes(form), sizes(expression))))

    def test_same_words_of_larger_ones(self):
        numbers = random.Random(15)
        for expression in larger_ones(15, 150) + LONGEST:
            form = simple(expression)
            self.assertTrue(is_long(form))
            self.assertEqual(simple(form), form)
            self.assertTrue(all(one <= other for one, other in zip(sizes(form), sizes(expression))))
            for word in words_about(expression, numbers):
                self.assertEqual(matches(form, word), matches(expression, word))

    def test_bad_values(self):
        assert_bad_values(self, simple, ["expression"], {}, {"expression": NOT_LONG})


def rules_that_hold(form):
    """The rules of point 13 that could still be used somewhere in the expression."""
    if isinstance(form, str):
        return []
    word, inner = form
    parts = inner if word in ("join", "or") else (inner,)
    found = [rule for part in parts for rule in rules_that_hold(part)]
    empties = [part for part in parts if "" in right_words(part, 0)]
    if word == "join" and "" in parts:
        found.append("join")
    if word == "or" and (len(set(parts)) < len(parts) or ("" in parts and len(empties) > 1)):
        found.append("or")
    if word == "maybe" and empties:
        found.append("maybe")
    if word == "many" and (inner == "" or inner[0] in ("maybe", "many")):
        found.append("many")
    return found


class Lengths(unittest.TestCase):
    def test_least_and_greatest(self):
        for expression in all_expressions(5, ["a", "b", ""]):
            # No small one has a longer word, but for those that have words of every length.
            lengths = {len(word) for word in right_words(expression, 8)}
            self.assertEqual(least_length(expression), min(lengths))
            greatest = greatest_length(expression)
            self.assertEqual(greatest, None if max(lengths) > 4 else max(lengths))
            if greatest is not None:
                self.assertLessEqual(greatest, len(leaf_letters(expression)))

    def test_many_of_the_empty_word(self):
        for inner in ("", ("join", ("", "")), ("maybe", ""), ("many", ""), ("or", ("", ("many", "")))):
            self.assertEqual(greatest_length(("many", inner)), 0)
            self.assertEqual(least_length(("many", inner)), 0)
            self.assertEqual(greatest_length(("join", ("a", ("many", inner), "b"))), 2)
            self.assertEqual(greatest_length(("or", ("a", ("many", inner)))), 1)
            self.assertEqual(greatest_length(("maybe", ("many", inner))), 0)
            self.assertIsNone(greatest_length(("join", (("many", inner), ("many", "a")))))

    def test_many_hinders(self):
        for inner in ("a", ("maybe", "a"), ("many", "a"), ("or", ("", "b")), ("join", (("maybe", "a"), ""))):
            self.assertIsNone(greatest_length(("many", inner)))
            self.assertEqual(least_length(("many", inner)), 0)
            self.assertIsNone(greatest_length(("maybe", ("many", inner))))
            self.assertIsNone(greatest_length(("or", ("a", ("many", inner)))))
            self.assertIsNone(greatest_length(("join", (("many", inner), "b"))))
            self.assertEqual(least_length(("join", (("many", inner), "b"))), 1)

    def test_some(self):
        self.assertEqual(least_length(("or", (("join", ("a", "b", "c")), ("join", ("a", "b"))))), 2)
        self.assertEqual(greatest_length(("or", (("join", ("a", "b", "c")), ("join", ("a", "b"))))), 3)
        self.assertEqual(least_length(("maybe", ("join", ("a", "b")))), 0)
        self.assertEqual(greatest_length(("maybe", ("join", ("a", "b")))), 2)

    def test_longest(self):
        self.assertEqual([least_length(each) for each in LONGEST], [1, 0, 2, 40, 1, 0, 0, 0, 0])
        self.assertEqual([greatest_length(each) for each in LONGEST], [1, 0, 2, 40, 1, 0, 1, 0, None])

    def test_bad_values(self):
        for function in (least_length, greatest_length):
            assert_bad_values(self, function, ["expression"], {}, {"expression": NOT_LONG})
