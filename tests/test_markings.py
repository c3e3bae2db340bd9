"""Points 19 to 23 and 26 to 28: places, candidates and markings."""

import random
import unittest
from itertools import product
from math import comb

from nodoubt.expressions import is_long, matches
from nodoubt.markings import (
    candidates, count_markings, first_marking, first_places, following, is_marking, last_places,
)
from nodoubt.simple import turned
from tests.helper import (
    LARGEST, LONGEST, NO_WORDS, NOT_LONG, STRANGE, all_expressions, all_markings, assert_bad_values,
    deep_list, deep_row, deep_tuple, grown, leaf_letters, word_of, words_about, words_up_to, wrapped,
)

SMALL = all_expressions(4, ["a", "b", ""]) + [
    ("many", ("or", ("a", "b", "a"))),
    ("many", ("join", (("maybe", "a"), ("maybe", "a")))),
    ("many", ("join", (("many", "a"), "b", ("many", "a")))),
    ("join", (("many", ("join", ("a", "b"))), ("maybe", "a"))),
    ("or", (("many", ("join", ("a", "b"))), "a")),
    ("or", (("join", ("a", "b")), ("join", ("a", "a")))),
    ("join", (("many", ("or", ("a", "b"))), "a")),
    ("many", ("many", ("join", (("maybe", "a"), "", ("maybe", "b"))))),
    ("join", ("a", ("or", ("", "b")), ("many", ""), "a")),
    ("maybe", ("join", (("or", ("a", "")), ("or", ("b", "")), ("or", ("a", ""))))),
    ("many", ("join", ("a", ("or", (("join", ("b", "a")), ""))))),
]

NO_PLACES = [
    None, True, False, -1, 1, 2, 40, -(10 ** 30), 10 ** 30, "", "0", "a", (), (0,), [], [0], 0.0, 0.5,
    deep_list(1000), deep_tuple(1000), deep_row(1000),
]


def place_tuples(expression, length):
    """All tuples of places of the expression, with at most so many of them."""
    places = range(len(leaf_letters(expression)))
    return [each for many in range(length + 1) for each in product(places, repeat=many)]


def larger_ones(seed, many):
    numbers = random.Random(seed)
    found = [grown(numbers, numbers.randint(6, 120)) for _ in range(many)]
    return [expression for expression in found if is_long(expression) and leaf_letters(expression)]


def told_steps(expression):
    """First and last places, and the list of the following ones."""
    places = range(len(leaf_letters(expression)))
    rows = [following(expression, place) for place in places]
    return first_places(expression), last_places(expression), rows


def with_letter_at(expression, place, letter):
    """The expression with another letter at the place, and the places behind its last one."""
    if isinstance(expression, str):
        if expression != "" and place == 0:
            return letter
        return expression
    word, inner = expression
    if word in ("maybe", "many"):
        return (word, with_letter_at(inner, place, letter))
    row = []
    for part in inner:
        row.append(with_letter_at(part, place, letter))
        place -= len(leaf_letters(part))
    return (word, tuple(row))


class Places(unittest.TestCase):
    def test_against_all_markings(self):
        for expression in SMALL:
            markings = all_markings(expression, 7)
            first = tuple(sorted({marking[0] for marking in markings if marking}))
            last = tuple(sorted({marking[-1] for marking in markings if marking}))
            self.assertEqual(first_places(expression), first, expression)
            self.assertEqual(last_places(expression), last, expression)
            pairs = {pair for marking in markings for pair in zip(marking, marking[1:])}
            for place in range(len(leaf_letters(expression))):
                behind = tuple(sorted(other for one, other in pairs if one == place))
                self.assertEqual(following(expression, place), behind, expression)

    def test_five_parts(self):
        for expression in all_expressions(5, ["a", ""])[::3]:
            markings = all_markings(expression, 6)
            first, last, rows = told_steps(expression)
            self.assertEqual(first, tuple(sorted({marking[0] for marking in markings if marking})))
            self.assertEqual(last, tuple(sorted({marking[-1] for marking in markings if marking})))
            pairs = sorted({pair for marking in markings for pair in zip(marking, marking[1:])})
            self.assertEqual([(one, other) for one, row in enumerate(rows) for other in row], pairs)

    def test_longest(self):
        row = tuple(range(40))
        self.assertEqual(told_steps(("join", ("a",) * 40)), ((0,), (39,), [(k,) for k in range(1, 40)] + [()]))
        self.assertEqual(told_steps(("or", ("a",) * 40)), (row, row, [()] * 40))
        self.assertEqual(told_steps(("many", ("or", ("a",) * 40))), (row, row, [row] * 40))
        self.assertEqual(told_steps(("join", (("many", "a"),) * 40)), (row, row, [row[k:] for k in row]))
        self.assertEqual(told_steps(("join", (("maybe", "a"),) * 40)), (row, row, [row[k + 1:] for k in row]))
        self.assertEqual(told_steps(wrapped("maybe", 40, "a")), ((0,), (0,), [()]))
        self.assertEqual(told_steps(wrapped("many", 40, "a")), ((0,), (0,), [(0,)]))
        self.assertEqual(told_steps(LARGEST), (row, row, [(0,)] + [()] * 39))
        self.assertEqual(told_steps(wrapped("many", 40, "")), ((), (), []))
        self.assertEqual(told_steps(("or", ("",) * 199)), ((), (), []))

    def test_turned(self):
        for expression in SMALL + larger_ones(26, 100):
            n = len(leaf_letters(expression))
            first, last, rows = told_steps(expression)
            other_first, other_last, other_rows = told_steps(turned(expression))
            self.assertEqual(other_first, tuple(sorted(n - 1 - place for place in last)))
            self.assertEqual(other_last, tuple(sorted(n - 1 - place for place in first)))
            pairs = {(n - 1 - other, n - 1 - one) for one in range(n) for other in rows[one]}
            self.assertEqual({(one, other) for one in range(n) for other in other_rows[one]}, pairs)

    def test_another_letter(self):
        for expression in SMALL + larger_ones(27, 12):
            expected = told_steps(expression)
            for place, letter in enumerate(leaf_letters(expression)):
                other = "bcda"["abcd".index(letter)]
                changed = with_letter_at(expression, place, other)
                self.assertEqual(leaf_letters(changed)[place], other)
                self.assertEqual(told_steps(changed), expected)

    def test_maybe_and_many_around(self):
        for expression in SMALL + larger_ones(28, 100):
            if not is_long(("maybe", expression)):
                continue
            first, last, rows = told_steps(expression)
            self.assertEqual(told_steps(("maybe", expression)), (first, last, rows))
            more = [tuple(sorted(set(row + first))) if place in last else row for place, row in enumerate(rows)]
            self.assertEqual(told_steps(("many", expression)), (first, last, more))
            for around in ("maybe", "many"):
                self.assertEqual(count_markings((around, expression), ""), 1)
                self.assertEqual(first_marking((around, expression), ""), ())

    def test_kinds(self):
        some = ("or", (("many", ("join", ("a", "b"))), "a"))
        for told in (first_places(some), last_places(some), following(some, 0), following(some, 2)):
            self.assertIs(type(told), tuple)
        for told in (first_places(""), last_places("")):
            self.assertEqual(told, ())

    def test_bad_values(self):
        wrong = {"expression": NOT_LONG, "place": NO_PLACES}
        assert_bad_values(self, first_places, ["expression"], {}, wrong)
        assert_bad_values(self, last_places, ["expression"], {}, wrong)
        assert_bad_values(self, following, ["expression", "place"], {"expression": "a", "place": 0}, wrong)

    def test_bad_places(self):
        for expression, many in (("", 0), ("a", 1), (("or", ("a",) * 40), 40), (("many", ("or", ("a", "b"))), 2)):
            wrong = {"place": [many, many + 1, -1, True, False, None, "0"]}
            for value in wrong["place"]:
                assert_bad_values(self, lambda place: following(expression, place), ["place"], {}, wrong)
            for place in range(many):
                self.assertIs(type(following(expression, place)), tuple)


class Candidates(unittest.TestCase):
    def test_against_all_markings(self):
        for expression in SMALL:
            markings = all_markings(expression, 6)
            for word in words_up_to(3, "ab"):
                rows = []
                for many in range(1, len(word) + 1):
                    fitting = [m for m in markings if word_of(expression, m[:many]) == word[:many]]
                    rows.append(tuple(sorted({m[many - 1] for m in fitting})))
                self.assertEqual(candidates(expression, word), rows, (expression, word))

    def test_longer_words(self):
        numbers = random.Random(22)
        for expression in larger_ones(22, 80):
            letters = leaf_letters(expression)
            first, last, steps = told_steps(expression)
            for word in words_about(expression, numbers):
                rows = candidates(expression, word)
                near = set(first)
                self.assertEqual(len(rows), len(word))
                for letter, row in zip(word, rows):
                    self.assertEqual(row, tuple(sorted(place for place in near if letters[place] == letter)))
                    near = {other for place in row for other in steps[place]}
                if word:
                    self.assertEqual(matches(expression, word), bool(set(rows[-1]) & set(last)))

    def test_some(self):
        self.assertEqual(candidates("", ""), [])
        self.assertEqual(candidates("a", ""), [])
        self.assertEqual(candidates("", "ab"), [(), ()])
        self.assertEqual(candidates(("many", ("or", ("a",) * 40)), "a" * 24), [tuple(range(40))] * 24)
        steps = ("join", (("maybe", "a"),) * 40)
        self.assertEqual(candidates(steps, "a" * 24), [tuple(range(k, 40)) for k in range(24)])
        # The word itself need not be right: a place counts that only longer words go through.
        self.assertEqual(candidates(("join", ("a", "b", "c")), "ab"), [(0,), (1,)])
        self.assertEqual(candidates(("join", ("a", "b", "c")), "acb"), [(0,), (), ()])

    def test_kinds(self):
        rows = candidates(("many", "a"), "aaa")
        self.assertIs(type(rows), list)
        self.assertEqual([type(row) for row in rows], [tuple] * 3)

    def test_a_changed_list_has_no_effect(self):
        expression = ("many", ("or", ("a", "b", "a")))
        for word in ("", "a", "aba"):
            rows = candidates(expression, word)
            before = list(rows)
            rows.append((9,))
            rows[0] = (7,)
            rows.reverse()
            self.assertEqual(candidates(expression, word), before)
            self.assertIsNot(candidates(expression, word), candidates(expression, word))

    def test_bad_values(self):
        wrong = {"expression": NOT_LONG, "word": NO_WORDS}
        good = {"expression": "a", "word": "a"}
        for function in (candidates, count_markings, first_marking):
            assert_bad_values(self, function, ["expression", "word"], good, wrong)


class Markings(unittest.TestCase):
    def test_all_tuples_of_places(self):
        for expression in SMALL:
            markings = all_markings(expression, 4)
            for value in place_tuples(expression, 4):
                word = word_of(expression, value)
                self.assertIs(is_marking(expression, word, value), value in markings, (expression, value))

    def test_other_words(self):
        for expression in SMALL[::5]:
            for value in all_markings(expression, 3):
                for word in words_up_to(3, "abc"):
                    expected = word == word_of(expression, value)
                    self.assertIs(is_marking(expression, word, value), expected)

    def test_count_and_first(self):
        for expression in SMALL:
            markings = all_markings(expression, 4)
            of_word = {}
            for marking in sorted(markings):
                of_word.setdefault(word_of(expression, marking), []).append(marking)
            for word in words_up_to(4, "ab") + ["c", "ac", "dab"]:
                found = of_word.get(word, [])
                self.assertEqual(count_markings(expression, word), len(found), (expression, word))
                first = first_marking(expression, word)
                self.assertEqual(first, found[0] if found else None, (expression, word))
                self.assertEqual(matches(expression, word), len(found) > 0)

    def test_longer_words(self):
        numbers = random.Random(23)
        for expression in larger_ones(23, 80):
            steps = told_steps(expression)
            for word in words_about(expression, numbers):
                found = markings_of(expression, steps, word, 500)
                first = first_marking(expression, word)
                if found is not None:
                    self.assertEqual(count_markings(expression, word), len(found))
                    self.assertEqual(first, min(found, default=None))
                    for marking in found[:20]:
                        self.assertIs(is_marking(expression, word, marking), True)
                self.assertEqual(first is not None, matches(expression, word))
                if first is not None:
                    self.assertIs(is_marking(expression, word, first), True)

    def test_turned(self):
        numbers = random.Random(24)
        for expression in larger_ones(24, 60):
            n = len(leaf_letters(expression))
            for word in words_about(expression, numbers):
                count = count_markings(expression, word)
                self.assertEqual(count_markings(turned(expression), word[::-1]), count)
                if count:
                    value = tuple(n - 1 - place for place in first_marking(expression, word)[::-1])
                    self.assertIs(is_marking(turned(expression), word[::-1], value), True)

    def test_very_many_markings(self):
        word = "a" * 24
        self.assertEqual(count_markings(("many", ("or", ("a",) * 40)), word), 40 ** 24)
        self.assertEqual(count_markings(("many", ("or", ("a",) * 39 + ("b",))), "a" * 23 + "b"), 39 ** 23)
        self.assertEqual(count_markings(("join", (("maybe", "a"),) * 40), word), comb(40, 24))
        self.assertEqual(count_markings(("join", (("many", "a"),) * 40), word), comb(63, 24))
        self.assertEqual(count_markings(wrapped("many", 40, "a"), word), 1)
        self.assertEqual(count_markings(("many", ("or", ("a",) * 40)), "a" * 23 + "b"), 0)
        self.assertEqual(first_marking(("many", ("or", ("a",) * 40)), word), (0,) * 24)
        self.assertEqual(first_marking(("join", (("maybe", "a"),) * 40), word), tuple(range(24)))
        self.assertEqual(first_marking(("join", (("many", "a"),) * 40), word), (0,) * 24)
        self.assertEqual(first_marking(("join", (("maybe", "a"),) * 20 + ("a",) * 20), word),
                         (0, 1, 2, 3) + tuple(range(20, 40)))
        self.assertIsNone(first_marking(("many", ("or", ("a",) * 40)), "a" * 23 + "b"))
        self.assertIs(is_marking(("many", ("or", ("a",) * 40)), word, tuple(range(39, 15, -1))), True)
        self.assertIs(is_marking(("many", ("or", ("a",) * 40)), word, (40,) * 24), False)

    def test_first_one_that_can_be_gone_on_from(self):
        some = ("or", (("join", ("a", "b")), ("join", ("a", "c")), ("join", ("a", "b"))))
        self.assertEqual(first_marking(some, "ab"), (0, 1))
        self.assertEqual(first_marking(some, "ac"), (2, 3))
        self.assertEqual(count_markings(some, "ab"), 2)
        self.assertIsNone(first_marking(some, "a"))

    def test_empty_word(self):
        for expression, right in (("", True), ("a", False), (("many", "a"), True), (("or", ("", "")), True)):
            self.assertEqual(count_markings(expression, ""), 1 if right else 0)
            self.assertEqual(first_marking(expression, ""), () if right else None)
            self.assertIs(is_marking(expression, "", ()), right)
            self.assertIs(is_marking(expression, "", (0,)), False)
        self.assertEqual([first_marking(each, "") for each in LONGEST],
                         [None, (), None, None, None, (), (), (), ()])

    def test_kinds(self):
        self.assertIs(type(count_markings("a", "b")), int)
        self.assertIs(type(count_markings("", "")), int)
        self.assertIs(type(first_marking("a", "a")), tuple)

    def test_true_and_false_are_no_places(self):
        some = ("many", ("or", ("a", "a")))
        self.assertIs(is_marking(some, "aa", (0, 1)), True)
        for value in ((False, 1), (0, True), (False, True), (1, False), (True, 1)):
            self.assertIs(is_marking(some, "aa", value), False)
        self.assertIs(is_marking("a", "a", (False,)), False)

    def test_strange_values(self):
        for expression in ("a", "", ("many", ("or", ("a", "b"))), LARGEST):
            for word in ("", "a", "ab"):
                for at, value in enumerate(STRANGE):
                    with self.subTest(at=at, word=word):
                        self.assertIs(is_marking(expression, word, value), False)

    def test_other_forms(self):
        for value in ([0], ((0,),), (0, 0), (), (1,), (-1,), ("a",), (None,), ([0],), "a", 0, {0: 0}, (0.0,)):
            self.assertIs(is_marking("a", "a", value), False)
        self.assertIs(is_marking("a", "a", (0,)), True)
        self.assertIs(is_marking(("or", ("a", "a")), "a", (-1,)), False)
        value = [0]
        is_marking("a", "a", value)
        self.assertEqual(value, [0])

    def test_bad_values(self):
        wrong = {"expression": NOT_LONG, "word": NO_WORDS}
        for last in ((0,), None, deep_row(1000)):
            assert_bad_values(self, lambda expression, word: is_marking(expression, word, last),
                              ["expression", "word"], {"expression": "a", "word": "a"}, wrong)


def markings_of(expression, told, word, most):
    """The list of all markings of the word, from left to right, or None if they become many."""
    letters = leaf_letters(expression)
    first, last, steps = told
    if word == "":
        return [()] if matches(expression, "") else []
    found = [(place,) for place in first if letters[place] == word[0]]
    for letter in word[1:]:
        found = [each + (p,) for each in found for p in steps[each[-1]] if letters[p] == letter]
        if len(found) > most:
            return None
    return [each for each in found if each[-1] in last]
