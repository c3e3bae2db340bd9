"""Points 34 to 37 and 39: guides, and reading by them."""

import random
import unittest
from itertools import combinations, product

from nodoubt.doubts import (
    accepts_doubt, accepts_guide, conflicts, doubt_word, first_doubt, guide, is_sure, places_read,
)
from nodoubt.errors import BadValue, NotPossible
from nodoubt.expressions import is_long, matches
from nodoubt.markings import first_marking, first_places, following, is_marking, last_places
from nodoubt.simple import turned
from tests.helper import (
    LARGEST, NO_WORDS, NOT_LONG, STRANGE, all_expressions, all_markings, assert_bad_values, deep_list, deep_row,
    deep_tuple, larger_ones, leaf_letters, parts_within, word_of, words_about, words_up_to, wrapped,
)

SMALL = all_expressions(4, ["a", "b", ""]) + [
    ("or", (("join", ("a", "b")), ("join", ("c", "b")), "d")),
    ("many", ("join", ("a", ("maybe", "b"), "c"))),
    ("many", ("or", ("a", ("join", ("b", ("many", "b"), "c"))))),
    ("join", (("many", "b"), "a", ("many", ("or", ("a", ("join", ("b", ("many", "b"), "a"))))))),
]

LONG_SURE = [
    ("join", ("a", "b", "c", "d") * 10),
    ("many", ("join", ("a", "b") * 20)),
    ("join", (("many", "a"), "b", ("many", "c"), "d") * 10),
    ("join", (("or", ("a", "b")), ("or", ("c", "d"))) * 10),
    wrapped("many", 40, "a"),
    wrapped("maybe", 39, ("or", ("a", "b", "c", "d"))),
]

CLEAR = ("join", (("many", "a"), "b", ("or", ("c", "d"))))


def told_rows(expression):
    """All pairs of letter and place behind the beginning and behind each place."""
    letters = leaf_letters(expression)
    rows = [first_places(expression)] + [following(expression, place) for place in range(len(letters))]
    return [tuple(sorted((letters[place], place) for place in row)) for row in rows]


def told_guide(expression):
    rows = told_rows(expression)
    if any(len({letter for letter, _ in row}) < len(row) for row in rows):
        return None
    return rows[0], tuple(rows[1:])


class Guides(unittest.TestCase):
    def test_guide(self):
        told = {True: 0, False: 0}
        for expression in SMALL + LONG_SURE + larger_ones(34, 400) + larger_ones(35, 400, 24, False):
            expected = told_guide(expression)
            self.assertEqual(guide(expression), expected, expression)
            self.assertIs(expected is None, conflicts(expression) != [])
            self.assertIs(expected is None, first_doubt(expression) is not None)
            told[expected is None] += 1
            if expected is not None:
                self.assertIs(accepts_guide(expression, expected), True)
            else:
                self.assertIs(accepts_doubt(expression, first_doubt(expression)), True)
        self.assertTrue(min(told.values()) > 100)

    def test_no_places(self):
        for expression in ("", ("many", ""), ("or", ("", "", ""))):
            self.assertEqual(guide(expression), ((), ()))
            self.assertIs(accepts_guide(expression, ((), ())), True)
            for value in ((), ((),), ((), (), ()), ((), ((),)), (((),), ()), ([], ()), ((), []), [(), ()], None):
                self.assertIs(accepts_guide(expression, value), False)

    def test_kinds(self):
        begin, rows = guide(CLEAR)
        self.assertTrue(type(begin) is tuple and type(rows) is tuple)
        self.assertTrue(all(type(row) is tuple for row in rows))
        self.assertTrue(all(type(pair) is tuple for row in rows for pair in row))

    def test_longest(self):
        begin, rows = guide(("join", ("a",) * 40))
        self.assertEqual((begin, rows), ((("a", 0),), tuple((("a", k),) for k in range(1, 40)) + ((),)))
        self.assertIsNone(guide(LARGEST))
        self.assertEqual(guide(wrapped("many", 40, "a")), ((("a", 0),), ((("a", 0),),)))


class AcceptsGuide(unittest.TestCase):
    def test_all_values_of_two_places(self):
        pairs = list(product("ab", (0, 1)))
        rows = [row for many in range(3) for row in combinations(pairs, many)]
        values = [(begin, behind) for begin in rows for behind in product(rows, repeat=2)]
        for expression in (("join", ("a", "b")), ("or", ("a", "b")), ("many", ("or", ("b", "a"))), ("or", ("a", "a")),
                           ("many", ("join", ("b", ("maybe", "a")))), ("join", (("many", "a"), "b")),
                           ("join", ("a", "a")), ("many", ("join", ("a", ("maybe", "a"))))):
            accepted = [value for value in values if accepts_guide(expression, value)]
            self.assertEqual(accepted, [] if guide(expression) is None else [guide(expression)])

    def test_changed_ones(self):
        for expression in [CLEAR] + SMALL[::3] + larger_ones(36, 60, 30) + LONG_SURE[:2]:
            told = told_rows(expression)
            letters = leaf_letters(expression)
            for at, row in list(enumerate(told))[:3]:
                other_rows = [row + (("d", 0),), (("a", 0),) + row, row + row[:1], row[::-1] + row[:1], row[1:], row[:-1],
                              [*row], None, row + ((),), row + (None,), tuple((place, letter) for letter, place in row)]
                for which, (letter, place) in enumerate(row):
                    head, tail = row[:which], row[which + 1:]
                    other_rows += [head + (pair,) + tail for pair in (
                        [letter, place], (letter, place, place), (letter,), (letter, None), (None, place), (letter, -1),
                        (letter, place - len(letters)), (letter, float(place)), (letter, str(place)), place, letter,
                        (letter, len(letters)), ("e", place), ("", place), (letter * 2, place), ((letter,), place),
                    )]
                    other_rows += [head + ((letter, p),) + tail for p in range(len(letters)) if p != place]
                    other_rows += [head + ((x, place),) + tail for x in "abcd" if x != letter]
                if len(row) > 1:
                    other_rows.append(row[::-1])
                for other in other_rows:
                    if repr(other) != repr(row):
                        value = told[:at] + [other] + told[at + 1:]
                        self.assertIs(accepts_guide(expression, (value[0], tuple(value[1:]))), False, other)

    def test_rows_put_in_left_out_or_exchanged(self):
        for expression in [CLEAR, ("join", ("a", "b", "c"))] + LONG_SURE[:4]:
            begin, rows = guide(expression)
            self.assertIs(accepts_guide(expression, (begin, rows)), True)
            for value in ((begin, rows + ((),)), (begin, rows[:-1]), (begin, rows[1:]), (begin, ((),) + rows),
                          (begin, rows + rows[-1:]), (begin, rows[::-1]), (begin, rows[1:2] + rows[:1] + rows[2:]),
                          (rows, begin), ((), rows), (begin, ()), (begin,), (rows,), (begin, rows, ()), (begin,) + rows,
                          [begin, rows], (begin, list(rows)), (list(begin), rows), (begin, tuple(map(list, rows))),
                          (begin, None), (None, rows), (begin, True), (begin, rows[0]), (rows[0], rows)):
                if value != (begin, rows) or type(value) is not tuple or type(value[1]) is not tuple:
                    self.assertIs(accepts_guide(expression, value), False, value)

    def test_two_pairs_of_one_letter_are_never_accepted(self):
        for expression in SMALL + larger_ones(37, 200):
            if guide(expression) is None:
                told = told_rows(expression)
                self.assertIs(accepts_guide(expression, (told[0], tuple(told[1:]))), False)
                # With one pair for each letter some place is left out.
                for kept in (dict, lambda row: dict(row[::-1])):
                    rows = [tuple(sorted(kept(row).items())) for row in told]
                    self.assertIs(accepts_guide(expression, (rows[0], tuple(rows[1:]))), False)

    def test_true_and_false_are_no_places(self):
        some = ("many", ("or", ("a", "b")))
        row = (("a", 0), ("b", 1))
        self.assertIs(accepts_guide(some, (row, (row, row))), True)
        for other in ((("a", False), ("b", 1)), (("a", 0), ("b", True)), (("a", False), ("b", True))):
            for value in ((other, (row, row)), (row, (other, row)), (row, (row, other)), (other, (other, other))):
                self.assertIs(accepts_guide(some, value), False, value)
        self.assertIs(accepts_guide("a", ((("a", 0),), ((),))), True)
        self.assertIs(accepts_guide("a", ((("a", False),), ((),))), False)

    def test_strange_values(self):
        for expression in ("", "a", CLEAR, ("or", ("a", "a")), LARGEST):
            for at, value in enumerate(STRANGE + [deep_list(5000), deep_tuple(5000), deep_row(5000)]):
                with self.subTest(at=at):
                    self.assertIs(accepts_guide(expression, value), False)
                    self.assertIs(accepts_guide(expression, (value, value)), False)
                    self.assertIs(accepts_guide(CLEAR, (guide(CLEAR)[0], value)), False)
                    self.assertIs(accepts_guide(CLEAR, (value, guide(CLEAR)[1])), False)

    def test_nothing_is_changed(self):
        value = [[["a", 0]], []]
        accepts_guide("a", value)
        self.assertEqual(value, [[["a", 0]], []])


class Reading(unittest.TestCase):
    def test_against_all_markings(self):
        for expression in SMALL:
            if not is_sure(expression):
                continue
            markings = all_markings(expression, 7)
            beginnings = {}
            for marking in markings:
                for many in range(len(marking) + 1):
                    beginnings.setdefault(word_of(expression, marking[:many]), set()).add(marking[:many])
            self.assertTrue(all(len(found) == 1 for found in beginnings.values()))
            for word in words_up_to(4, "abc"):
                read = next(word[:many] for many in range(len(word), -1, -1) if word[:many] in beginnings)
                self.assertEqual(places_read(expression, word), *beginnings[read])

    def test_right_exactly_if_all_is_read_to_a_last_place(self):
        numbers = random.Random(37)
        told = {True: 0, False: 0}
        for expression in LONG_SURE + [each for each in larger_ones(38, 900, 40) if is_sure(each)]:
            last = last_places(expression)
            for word in words_about(expression, numbers) + ["", "a", "abcd"]:
                read = places_read(expression, word)
                right = len(read) == len(word) and (read[-1] in last if word else matches(expression, ""))
                self.assertIs(matches(expression, word), right, (expression, word))
                if right:
                    self.assertIs(is_marking(expression, word, read), True)
                    self.assertEqual(first_marking(expression, word), read)
                    told[len(word) > 4] += 1
        self.assertTrue(min(told.values()) > 100)

    def test_some(self):
        self.assertEqual(places_read(CLEAR, ""), ())
        self.assertEqual(places_read(CLEAR, "aab"), (0, 0, 1))
        self.assertEqual(places_read(CLEAR, "abd"), (0, 1, 3))
        self.assertEqual(places_read(CLEAR, "aca"), (0,))
        self.assertEqual(places_read(CLEAR, "c"), ())
        self.assertEqual(places_read(CLEAR, "bcbc"), (1, 2))
        self.assertEqual(places_read("", "ab"), ())
        self.assertEqual(places_read("", ""), ())
        self.assertEqual(places_read("a", "aaa"), (0,))
        self.assertEqual(places_read(("many", "a"), "a" * 24), (0,) * 24)
        self.assertEqual(places_read(LONG_SURE[0], "abcd" * 6), tuple(range(24)))
        self.assertEqual(places_read(LONG_SURE[0], "abcd" * 5 + "abcc"), tuple(range(23)))
        self.assertEqual(places_read(("many", ("join", ("a", "b", "c"))), "abc" * 8), (0, 1, 2) * 8)
        self.assertIs(type(places_read(CLEAR, "ab")), tuple)

    def test_doubt(self):
        for expression in (("or", ("a", "a")), ("join", (("many", "a"), "a")), LARGEST):
            for word in ("", "a", "b", "d" * 24):
                with self.assertRaises(NotPossible) as caught:
                    places_read(expression, word)
                self.assertEqual(caught.exception.why, "doubt")


class Parts(unittest.TestCase):
    def test_parts_and_maybe_of_a_sure_one(self):
        sure = 0
        for expression in SMALL + LONG_SURE + larger_ones(39, 900, 60):
            if is_sure(expression):
                sure += 1
                self.assertTrue(all(is_sure(part) for part in parts_within(expression)), expression)
                if is_long(("maybe", expression)):
                    self.assertIs(is_sure(("maybe", expression)), True)
        self.assertGreater(sure, 250)

    def test_what_need_not_be_sure(self):
        some = ("join", ("a", ("maybe", "a")))
        self.assertIs(is_sure(some), True)
        for other in (turned(some), ("many", some), ("join", (("maybe", "a"), "a")), ("or", ("a", some))):
            self.assertIs(is_sure(other), False)
            self.assertEqual(doubt_word(other), "aa" if other[0] == "many" else "a")


class Wrong(unittest.TestCase):
    def test_bad_values(self):
        assert_bad_values(self, guide, ["expression"], {}, {"expression": NOT_LONG})
        for value in (((), ()), None, deep_row(1000)):
            assert_bad_values(self, lambda expression: accepts_guide(expression, value),
                              ["expression"], {}, {"expression": NOT_LONG})
        wrong = {"expression": NOT_LONG, "word": NO_WORDS}
        assert_bad_values(self, places_read, ["expression", "word"], {"expression": "a", "word": "a"}, wrong)

    def test_word_is_checked_ahead_of_the_doubt(self):
        for word in NO_WORDS:
            with self.assertRaises(BadValue) as caught:
                places_read(("or", ("a", "a")), word)
            self.assertEqual(caught.exception.name, "word")
