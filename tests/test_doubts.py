"""Points 30 to 33, 38 and 39: conflicts and doubts."""

import unittest
from itertools import combinations, product

from nodoubt.doubts import accepts_doubt, conflicts, doubt_word, first_doubt, is_sure
from nodoubt.markings import candidates, count_markings, first_places, following
from tests.helper import (
    LARGEST, NOT_LONG, STRANGE, all_expressions, all_markings, assert_bad_values, deep_row, larger_ones,
    leaf_letters, word_of, words_up_to, wrapped,
)

SMALL = all_expressions(4, ["a", "b", ""]) + all_expressions(5, ["a"]) + [
    ("or", (("join", ("a", "b")), ("join", ("c", "b")), "c")),
    ("join", (("or", ("b", "a")), ("or", ("c", ("join", ("c", "a")))))),
    ("many", ("join", ("a", ("maybe", "b"), ("maybe", "a")))),
    ("join", (("many", ("or", ("a", "b"))), "a")),
    ("many", ("join", (("maybe", "a"), ("maybe", "a"), ("maybe", "a")))),
]

EIGHT = larger_ones(31, 700, 24, False)
EIGHT += [("join", tuple(row) + (part,)) for row in product("ab", ("c", ("maybe", "d")), ("b", ("or", ("a", "b"))))
          for part in larger_ones(33, 60, 12, False) if part[0] != "join" and len(leaf_letters(part)) < 5]

# Their first doubt has a long word.
LONG = [
    ("join", ("a", "b", "c", "d") * 9 + (("or", ("d", ("join", ("c", "a")), "c")),)),
    ("join", ("a",) * 38 + (("or", ("b", "b")),)),
    ("join", ("d",) * 38 + (("many", "a"), "a")),
    ("join", (("many", ("join", ("a",) * 39)), ("maybe", "a"))),
    ("many", ("join", ("b",) * 20 + (("many", "a"), ("maybe", "a")) + ("c",) * 17)),
    ("join", (("or", ("b", "a")),) + ("c",) * 35 + (("or", (("join", ("d", "a")), "d")),)),
    ("join", (("or", (("join", ("b",) * 12), ("join", ("a",) * 14))), ("many", "c"), ("maybe", "c"))),
    ("join", (("or", (("join", ("d", "a", "a", "a")), ("join", ("a", "d", "d", "d")))),
              ("or", (("join", ("c", "b")), ("join", ("b", "c", "d")))),
              ("or", (("join", ("a", ("many", "b"), "b")), ("join", ("d", ("maybe", "c"), "c")))))),
    ("many", ("join", (("or", ("a", "b")), ("or", ("c", "d"))) * 5 + ("b", ("or", ("c", "d", "d", "c"))))),
    ("join", (("many", ("join", ("a", ("or", ("b", "c"))))), "d") * 9 + (("or", ("b", "a", "b")),)),
]


def near(expression, before):
    """The places directly behind the places before."""
    return following(expression, before[-1]) if before else first_places(expression)


def told_conflicts(expression):
    letters = leaf_letters(expression)
    rows = [first_places(expression)] + [following(expression, place) for place in range(len(letters))]
    return [(one, other) for one, other in combinations(range(len(letters)), 2)
            if letters[one] == letters[other] and any(one in row and other in row for row in rows)]


def told_first_doubt(expression):
    """The first doubt, by all tuples of places that begin a marking, the shorter ones first."""
    letters = leaf_letters(expression)
    befores = [()]
    for _ in range(len(letters) + 1):
        found = []
        for before in befores:
            for one, other in combinations(near(expression, before), 2):
                if letters[one] == letters[other]:
                    found.append((word_of(expression, before) + letters[one], (before, one, other)))
        if found:
            return min(found)
        befores = [before + (place,) for before in befores for place in near(expression, before)]
    return None, None


class Conflicts(unittest.TestCase):
    def test_against_all_pairs(self):
        for expression in SMALL + EIGHT + LONG + larger_ones(30, 200):
            found = conflicts(expression)
            self.assertEqual(found, told_conflicts(expression), expression)
            self.assertIs(is_sure(expression), found == [])

    def test_against_all_markings(self):
        for expression in SMALL:
            letters = leaf_letters(expression)
            markings = all_markings(expression, 6)
            beginnings = {marking[:many] for marking in markings for many in range(1, len(marking) + 1)}
            pairs = {tuple(sorted((one[-1], other))) for one in beginnings for other in range(len(letters))
                     if other != one[-1] and letters[other] == letters[one[-1]] and one[:-1] + (other,) in beginnings}
            self.assertEqual(conflicts(expression), sorted(pairs), expression)

    def test_some(self):
        self.assertEqual(conflicts(("or", ("a", "b", "a", "b", "a"))), [(0, 2), (0, 4), (1, 3), (2, 4)])
        self.assertEqual(conflicts(("join", ("a", ("or", ("b", "c", "b"))))), [(1, 3)])
        self.assertEqual(conflicts(("many", ("join", ("a", ("maybe", "a"))))), [(0, 1)])
        self.assertEqual(conflicts(("or", (("join", ("a", "b")), ("join", ("c", "b"))))), [])
        self.assertEqual(conflicts(("or", ("a",) * 40)), list(combinations(range(40), 2)))
        self.assertEqual(conflicts(LARGEST), list(combinations(range(1, 40), 2)))
        self.assertEqual(conflicts(""), [])
        self.assertIs(is_sure(""), True)
        self.assertIs(is_sure(("or", ("", ""))), True)
        self.assertIs(is_sure(wrapped("many", 40, "a")), True)

    def test_a_changed_list_has_no_effect(self):
        for expression in (("or", ("a", "a", "b")), "a"):
            found = conflicts(expression)
            self.assertIs(type(found), list)
            self.assertTrue(all(type(pair) is tuple for pair in found))
            before = list(found)
            found.append((7, 9))
            found.reverse()
            self.assertEqual(conflicts(expression), before)
            self.assertIsNot(conflicts(expression), conflicts(expression))

    def test_sure_exactly_if_candidates_are_single(self):
        told = {True: 0, False: 0}
        for expression in SMALL:
            # The word of a first doubt has at most one letter more than there are places.
            words = words_up_to(len(leaf_letters(expression)) + 1, "abc")
            double = any(len(row) > 1 for word in words for row in candidates(expression, word))
            self.assertIs(is_sure(expression), not double, expression)
            told[double] += 1
            if not double:
                self.assertTrue(all(count_markings(expression, word) <= 1 for word in words))
        self.assertTrue(min(told.values()) > 50)

    def test_not_sure_with_at_most_one_marking(self):
        some = ("or", (("many", ("join", ("a", "b"))), "a"))
        self.assertIs(is_sure(some), False)
        self.assertTrue(all(count_markings(some, word) <= 1 for word in words_up_to(7, "ab")))


class FirstDoubt(unittest.TestCase):
    def check(self, expression):
        word, doubt = told_first_doubt(expression)
        self.assertEqual(first_doubt(expression), doubt, expression)
        self.assertEqual(doubt_word(expression), word, expression)
        self.assertIs(is_sure(expression), doubt is None)
        if doubt is not None:
            self.assertIs(accepts_doubt(expression, doubt), True)
            self.assertLessEqual(len(word), len(leaf_letters(expression)) + 1)

    def test_small_ones(self):
        for expression in SMALL:
            self.check(expression)

    def test_eight_places(self):
        told = {}
        for expression in EIGHT:
            self.check(expression)
            length = len(doubt_word(expression) or "")
            told[length] = told.get(length, 0) + 1
        self.assertTrue(all(told.get(length, 0) > 5 for length in range(5)), told)

    def test_forty_places(self):
        for expression in LONG + larger_ones(32, 200):
            self.check(expression)

    def test_long_words(self):
        words = [doubt_word(expression) for expression in LONG]
        self.assertEqual([len(word) for word in words], [37, 39, 39, 1, 21, 37, 13, 8, 12, 10])
        self.assertEqual(words[0], "abcd" * 9 + "c")
        self.assertEqual(words[1], "a" * 38 + "b")
        self.assertEqual(words[8], "ac" * 5 + "bc")
        self.assertEqual(first_doubt(LONG[1]), (tuple(range(38)), 38, 39))
        self.assertEqual(words[5], "a" + "c" * 35 + "d")
        self.assertEqual(first_doubt(LONG[5]), ((1,) + tuple(range(2, 37)), 37, 39))

    def test_first_word(self):
        self.assertEqual(first_doubt(("or", ("b", "a", "b", "a"))), ((), 1, 3))
        # A shorter word comes first, whatever its letters.
        some = ("or", (("join", ("a", ("or", ("a", "a")))), "d", "d"))
        self.assertEqual((first_doubt(some), doubt_word(some)), (((), 3, 4), "d"))
        # The letters of the places count ahead of the places.
        some = ("join", (("or", ("b", "a")), ("or", ("c", "c"))))
        self.assertEqual((first_doubt(some), doubt_word(some)), (((1,), 2, 3), "ac"))
        some = ("join", ("a", ("or", ("d", "d", "c", "c"))))
        self.assertEqual((first_doubt(some), doubt_word(some)), (((0,), 3, 4), "ac"))
        # A first letter that leads to no doubt so soon is not taken.
        some = ("or", (("join", ("a", "b", ("or", ("a", "a")))), ("join", ("b", ("or", ("d", "d"))))))
        self.assertEqual((first_doubt(some), doubt_word(some)), (((4,), 5, 6), "bd"))
        some = ("join", ("a", ("or", ("b", "b", "b"))))
        self.assertEqual(first_doubt(some), ((0,), 1, 2))

    def test_none(self):
        for expression in ("", "a", ("join", ("a",) * 40), ("many", ("or", ("a", "b", "c", "d"))), ("or", ("",) * 9)):
            self.assertIsNone(first_doubt(expression))
            self.assertIsNone(doubt_word(expression))

    def test_kinds(self):
        doubt = first_doubt(("join", ("a", ("or", ("b", "b")))))
        self.assertEqual([type(each) for each in doubt], [tuple, int, int])
        self.assertIs(type(doubt), tuple)
        self.assertIs(type(doubt_word(("or", ("a", "a")))), str)


class AcceptsDoubt(unittest.TestCase):
    def test_all_values(self):
        expressions = all_expressions(3, ["a", "b", ""]) + [
            ("many", ("or", ("a", "b", "a"))), ("join", ("a", ("or", ("b", "b", "a")))),
            ("many", ("join", ("a", ("maybe", "a"), "b"))), ("or", (("join", ("a", "b", "b")), "a")),
        ]
        for expression in expressions:
            letters = leaf_letters(expression)
            markings = all_markings(expression, 7)
            beginnings = {marking[:many] for marking in markings for many in range(len(marking) + 1)}
            places = range(-1, len(letters) + 1)
            for many in range(4):
                for before in product(places, repeat=many):
                    for one, other in product(places, repeat=2):
                        told = one < other and before + (one,) in beginnings and before + (other,) in beginnings
                        told = told and letters[one] == letters[other]
                        self.assertIs(accepts_doubt(expression, (before, one, other)), told, (before, one, other))

    def test_longer_before(self):
        some = ("many", ("or", (("join", ("a", "b")), "c", "a")))
        self.assertEqual(first_doubt(some), ((), 0, 3))
        for before in ((0, 1), (2,), (3,), (0, 1, 2, 3, 0, 1), (2,) * 1000, (0, 1) * 500):
            self.assertIs(accepts_doubt(some, (before, 0, 3)), True)
            self.assertIs(accepts_doubt(some, (before, 3, 0)), False)
            self.assertIs(accepts_doubt(some, (before + (0,), 0, 3)), False)
            self.assertIs(accepts_doubt(some, (before + (1,), 0, 3)), False)

    def test_places_exchanged_equal_of_unlike_letters_or_not_reached(self):
        some = ("join", ("a", ("or", ("b", "c", "b", "c")), ("maybe", "b")))
        self.assertIs(accepts_doubt(some, ((0,), 1, 3)), True)
        self.assertIs(accepts_doubt(some, ((0,), 2, 4)), True)
        for one, other in ((3, 1), (4, 2), (1, 1), (3, 3), (1, 2), (2, 3), (1, 4), (1, 5), (3, 5), (5, 5), (0, 0)):
            self.assertIs(accepts_doubt(some, ((0,), one, other)), False, (one, other))

    def test_before_that_does_not_begin_a_marking(self):
        some = ("join", ("a", ("or", (("join", ("b", "d")), ("join", ("c", "d")))), ("or", ("a", "a"))))
        self.assertIs(accepts_doubt(some, ((0, 1, 2), 5, 6)), True)
        self.assertIs(accepts_doubt(some, ((0, 3, 4), 5, 6)), True)
        for before in ((), (0,), (1, 2), (2,), (0, 1, 4), (0, 2), (0, 3, 2), (0, 1, 3, 4), (0, 1, 2, 5), (2, 1, 0),
                       (0, 0, 1, 2), (0, 1, 2, 2), (-1, 1, 2), (0, 1, -5), (7, 1, 2), (0, 1, 10 ** 30)):
            self.assertIs(accepts_doubt(some, (before, 5, 6)), False, before)

    def test_other_forms(self):
        some = ("many", ("or", ("a", "a")))
        for value in (((), 0, 1), ((0,), 0, 1), ((1, 0), 0, 1)):
            self.assertIs(accepts_doubt(some, value), True)
        for value in ([(), 0, 1], ([], 0, 1), ([0], 0, 1), ((), 0), ((), 0, 1, 1), (0, 1), ((), (0, 1)), ((), [0, 1]),
                      ((0,), 0, 1, None), (None, 0, 1), ((None,), 0, 1), ((), None, 1), ((), 0, None), ("", 0, 1),
                      (("a",), 0, 1), ((), "0", "1"), ((), "a", "a"), ((), 0, 2), ((), -1, 0), ((), -2, -1),
                      ((), 0.0, 1), ((), 0, 1.0), ((0.0,), 0, 1), (0, 0, 1), (((0,),), 0, 1), ((), (0,), (1,)),
                      ((), 0, 10 ** 30), ((), -(10 ** 30), 1), ((deep_row(1000),), 0, 1), ((), deep_row(1000), 1),
                      ((), 0, [1]), {}, {0: ()}):
            self.assertIs(accepts_doubt(some, value), False, value)

    def test_true_and_false_are_no_places(self):
        some = ("many", ("or", ("a", "a")))
        for value in (((), False, 1), ((), 0, True), ((), False, True), ((False,), 0, 1), ((True,), 0, 1),
                      ((0, True), 0, 1), (False, 0, 1), (True, 0, 1)):
            self.assertIs(accepts_doubt(some, value), False, value)

    def test_strange_values(self):
        for expression in ("", "a", ("or", ("a", "a")), ("many", ("or", ("a", "a"))), LARGEST):
            for at, value in enumerate(STRANGE):
                with self.subTest(at=at):
                    self.assertIs(accepts_doubt(expression, value), False)
                    if expression != ("many", ("or", ("a", "a"))):
                        self.assertIs(accepts_doubt(expression, (value, 1, 0)), False)
                        self.assertIs(accepts_doubt(expression, (value, 0, 1)), False)

    def test_sure_ones_have_none(self):
        for expression in SMALL:
            if is_sure(expression):
                n = len(leaf_letters(expression))
                for value in product([(), (0,), (0, 0), (1,), (0, 1)], range(n), range(n)):
                    self.assertIs(accepts_doubt(expression, value), False)

    def test_nothing_is_changed(self):
        value = ([0], 0, 1)
        accepts_doubt(("many", ("or", ("a", "a"))), value)
        self.assertEqual(value, ([0], 0, 1))


class Wrong(unittest.TestCase):
    def test_bad_values(self):
        for function in (is_sure, conflicts, first_doubt, doubt_word):
            assert_bad_values(self, function, ["expression"], {}, {"expression": NOT_LONG})
        for value in (((), 0, 1), None, deep_row(1000)):
            assert_bad_values(self, lambda expression: accepts_doubt(expression, value),
                              ["expression"], {}, {"expression": NOT_LONG})
