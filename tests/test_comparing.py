"""Points 52 to 56, 59 and 60: expressions compared by their right words."""

import random
import unittest
from itertools import combinations, product

from nodoubt.automata import automaton_of
from nodoubt.comparing import (
    accepts_equal, accepts_included, accepts_telling, are_equal, is_included, told_relation, telling_word,
)
from nodoubt.errors import BadValue, TooLarge
from nodoubt.expressions import is_expression, matches
from nodoubt.simple import simple
from tests.helper import (
    HUGE, LARGE, LETTERS, NOT_SHORT, STRANGE, TOO_LARGE, all_expressions, assert_bad_values, deep_list, deep_row,
    deep_tuple, larger_ones, run, takes, told_automaton, words_up_to,
)

SMALL = all_expressions(3, ["a", "b", ""]) + all_expressions(4, ["a"]) + [
    ("many", ("join", ("a", "b"))),
    ("join", (("many", ("join", ("a", "b"))), ("maybe", "a"))),
    ("many", ("or", ("a", "b"))),
]

LARGER = larger_ones(52, 120, 24, False, ["a", "b", "a", ""])
MANY = [("many", ("join", ("a",) * many)) for many in range(2, 9)]

EVEN = ("many", ("join", ("a", "b")))
ODD = ("join", (EVEN, ("maybe", "a")))


def pairs_of(expressions, seed, many):
    numbers = random.Random(seed)
    found = [(numbers.choice(expressions), numbers.choice(expressions)) for _ in range(many)]
    return found + [(one, simple(one)) for one, _ in found[::8]]


def led(automata, pair, letter):
    return tuple(-1 if state == -1 else run(automaton, letter, state) for automaton, state in zip(automata, pair))


def words_to_pairs(first, second):
    """The pairs to which words lead, with the first of these words, in order by length."""
    automata = told_automaton(first), told_automaton(second)
    found = {(0, 0): ""}
    waiting = [(0, 0)]
    for pair in waiting:
        for letter in LETTERS:
            behind = led(automata, pair, letter)
            if behind not in found:
                found[behind] = found[pair] + letter
                waiting.append(behind)
    return found


def accepting(first, second, pair):
    return tuple(state != -1 and automaton[0][state]
                 for automaton, state in zip((told_automaton(first), told_automaton(second)), pair))


def is_relation(first, second, value):
    """Point 53, of a tuple of pairs of integers."""
    automata = told_automaton(first), told_automaton(second)
    if list(value) != sorted(set(value)) or (0, 0) not in value:
        return False
    if any(state not in range(-1, len(automata[at][0])) for pair in value for at, state in enumerate(pair)):
        return False
    return all(led(automata, pair, letter) in value for pair in value for letter in LETTERS)


def told_judges(first, second, value):
    """What accepts_equal and accepts_included must say of a tuple of pairs of integers (point 54)."""
    if not is_relation(first, second, value):
        return False, False
    ends = [accepting(first, second, pair) for pair in value]
    return all(one == other for one, other in ends), all(other or not one for one, other in ends)


class Comparing(unittest.TestCase):
    def test_against_all_words(self):
        words = words_up_to(6, "ab")
        told = {}
        right = {each: {word for word in words if matches(each, word)} for each in set(SMALL)}
        for one, other in product(SMALL[::2], SMALL):
            included = right[one] <= right[other]
            equal = right[one] == right[other]
            self.assertIs(is_included(one, other), included, (one, other))
            self.assertIs(are_equal(one, other), equal, (one, other))
            apart = [word for word in words if (word in right[one]) != (word in right[other])]
            self.assertEqual(telling_word(one, other), apart[0] if apart else None, (one, other))
            told[included, equal] = told.get((included, equal), 0) + 1
        self.assertTrue(len(told) == 3 and min(told.values()) > 100, told)

    def test_against_the_pairs_of_states(self):
        for one, other in pairs_of(LARGER, 53, 250) + list(product(MANY, repeat=2)):
            for first, second in ((one, other), (other, one)):
                found = words_to_pairs(first, second)
                ends = {pair: accepting(first, second, pair) for pair in found}
                apart = [word for pair, word in found.items() if ends[pair][0] != ends[pair][1]]
                self.assertEqual(telling_word(first, second), apart[0] if apart else None)
                self.assertIs(are_equal(first, second), not apart)
                self.assertIs(is_included(first, second), all(b or not a for a, b in ends.values()))
                self.assertEqual(told_relation(first, second), tuple(sorted(found)))
                self.assertIs(are_equal(first, second), automaton_of(first) == automaton_of(second))
                self.assertIs(are_equal(first, second), is_included(first, second) and is_included(second, first))

    def test_telling_word(self):
        for one, other in pairs_of(LARGER, 54, 250) + list(product(MANY, repeat=2)):
            word = telling_word(one, other)
            self.assertEqual(telling_word(other, one), word)
            if word is not None:
                self.assertIs(type(word), str)
                self.assertIs(accepts_telling(one, other, word), True)
                self.assertNotEqual(takes(told_automaton(one), word), takes(told_automaton(other), word))
                states = len(told_automaton(one)[0]) + len(told_automaton(other)[0])
                self.assertLessEqual(len(word), states)
                for shorter in words_up_to(min(len(word), 3)):
                    if (len(shorter), shorter) < (len(word), word):
                        self.assertEqual(matches(one, shorter), matches(other, shorter))

    def test_long_telling_words(self):
        self.assertEqual(telling_word(("many", ("join", ("a", "b", "c", "d", "a", "b", "c", "d"))), ""), "abcdabcd")
        # The least number that is a sum of threes and fives, but of both of them.
        either = ("or", (MANY[1], MANY[3]))
        self.assertEqual(telling_word(either, ("many", ("or", (MANY[1][1], MANY[3][1])))), "a" * 8)
        self.assertEqual(telling_word(("join", (MANY[1], MANY[3])), ("many", ("or", (MANY[1][1], MANY[3][1])))), None)
        self.assertEqual(telling_word(MANY[-1], MANY[-2]), "a" * 7)
        self.assertEqual(telling_word(("join", ("a",) * 8), ("join", ("a",) * 7)), "a" * 7)
        self.assertEqual(telling_word(LARGE, ("many", ("or", ("a", "b")))), "b")
        self.assertEqual(telling_word(LARGE, ("or", (("many", "a"), ("join", (("or", ("a", "b")),) + ("a",) * 4)))),
                         "b" + "a" * 5)

    def test_some(self):
        self.assertIs(is_included(EVEN, ODD), True)
        self.assertIs(is_included(ODD, EVEN), False)
        self.assertEqual(telling_word(ODD, EVEN), "a")
        self.assertIsNone(telling_word(ODD, ODD))
        self.assertIs(are_equal("", ("maybe", "")), True)
        self.assertEqual(telling_word("", "a"), "")
        self.assertEqual(telling_word(("maybe", "b"), ("maybe", "a")), "a")
        self.assertEqual(telling_word(("maybe", ("join", ("a", "a"))), ("maybe", "d")), "d")
        self.assertEqual(told_relation("", ""), ((-1, -1), (0, 0)))
        self.assertEqual(told_relation("a", "b"), ((-1, -1), (-1, 1), (0, 0), (1, -1)))
        every = ("many", ("or", ("a", "b", "c", "d")))
        self.assertEqual(told_relation(every, every), ((0, 0),))
        self.assertEqual(told_relation(every, "a"), ((0, -1), (0, 0), (0, 1)))

    def test_kinds(self):
        relation = told_relation(EVEN, ODD)
        self.assertTrue(type(relation) is tuple and all(type(pair) is tuple for pair in relation))
        self.assertTrue(all(type(state) is int for pair in relation for state in pair))

    def test_large(self):
        self.assertIs(are_equal(LARGE, LARGE), True)
        self.assertEqual(len(told_relation(LARGE, LARGE)), 41)
        self.assertIs(accepts_equal(LARGE, LARGE, told_relation(LARGE, LARGE)), True)
        self.assertIs(is_included(("many", "a"), LARGE), True)
        self.assertIs(is_included(LARGE, ("many", "a")), False)


class Relations(unittest.TestCase):
    def check(self, first, second, value):
        equal, included = told_judges(first, second, value)
        self.assertIs(accepts_equal(first, second, value), equal, (first, second, value))
        self.assertIs(accepts_included(first, second, value), included, (first, second, value))
        # Whoever made it: what is accepted is so.
        self.assertTrue(not equal or are_equal(first, second))
        self.assertTrue(not included or is_included(first, second))
        return equal, included

    def test_told_relations(self):
        told = {}
        for one, other in pairs_of(SMALL + LARGER, 55, 400):
            equal, included = self.check(one, other, told_relation(one, other))
            self.assertIs(equal, are_equal(one, other))
            self.assertIs(included, is_included(one, other))
            told[equal, included] = told.get((equal, included), 0) + 1
        self.assertTrue(len(told) == 3 and min(told.values()) > 10, told)

    def test_all_sets_of_pairs(self):
        for first, second in ((EVEN, EVEN), ("a", "a"), ("", ("maybe", "a")), ("a", ("many", "a")), ("", ""),
                              (("many", "a"), ("many", ("or", ("a", "b")))), (("many", "a"), ("many", "a"))):
            states = [range(-1, len(told_automaton(each)[0])) for each in (first, second)]
            pairs = list(product(*states))
            accepted = 0
            for many in range(len(pairs) + 1):
                for value in combinations(pairs, many):
                    accepted += self.check(first, second, value)[1]
            self.assertEqual(accepted > 0, is_included(first, second))

    def test_more_pairs_than_are_told(self):
        for one, other in pairs_of(SMALL + LARGER, 56, 150):
            states = [range(-1, len(told_automaton(each)[0])) for each in (one, other)]
            relation = told_relation(one, other)
            for pair in list(product(*states))[:30]:
                self.check(one, other, tuple(sorted(set(relation) | {pair})))
            # All pairs of states are closed under the letters, too.
            self.check(one, other, tuple(product(*states)))
            self.check(one, other, tuple(sorted(set(relation) | {(-1, -1)})))

    def test_minus_one_and_pairs_that_no_word_leads_to(self):
        every = ("many", ("or", ("a", "b", "c", "d")))
        self.assertEqual(told_relation(every, every), ((0, 0),))
        for value in (((0, 0),), ((-1, -1), (0, 0))):
            self.assertIs(accepts_equal(every, every, value), True)
            self.assertIs(accepts_included(every, every, value), True)
        self.assertIs(accepts_equal(every, every, ((-1, 0), (0, 0))), False)
        self.assertIs(accepts_included(every, every, ((-1, 0), (0, 0))), True)
        self.assertIs(accepts_included(every, every, ((0, -1), (0, 0))), False)
        # (-1, -1) is reached here, and may not be left out.
        self.assertIs(accepts_equal(EVEN, EVEN, ((-1, -1), (0, 0), (1, 1))), True)
        self.assertIs(accepts_equal(EVEN, EVEN, ((0, 0), (1, 1))), False)
        # No word leads to (1, 1) and on from there without (-1, 1) and (1, -1).
        value = ((-1, -1), (-1, 0), (-1, 1), (0, 0), (1, 1))
        self.assertIs(accepts_included(EVEN, EVEN, value), True)
        self.assertIs(accepts_equal(EVEN, EVEN, value), False)

    def test_pairs_left_out_twice_or_out_of_order(self):
        for one, other in [(EVEN, EVEN), (EVEN, ODD), (LARGE, LARGE)] + [(x, simple(x)) for x in LARGER[:40]]:
            relation = told_relation(one, other)
            self.assertIs(accepts_included(one, other, relation), True)
            for judge in (accepts_equal, accepts_included):
                for at in range(len(relation)):
                    head, tail = relation[:at], relation[at + 1:]
                    self.assertIs(judge(one, other, head + tail), False)
                    self.assertIs(judge(one, other, head + relation[at:at + 1] * 2 + tail), False)
                    self.assertIs(judge(one, other, relation + relation[at:at + 1]), False)
                    if tail:
                        self.assertIs(judge(one, other, head + tail[:1] + relation[at:at + 1] + tail[1:]), False)
                self.assertIs(judge(one, other, ()), False)
                self.assertIs(judge(one, other, relation[::-1]), len(relation) == 1)

    def test_states_that_there_are_not(self):
        relation = ((-1, -1), (0, 0), (1, 1))
        self.assertEqual(told_relation(EVEN, ODD), relation)
        self.assertIs(accepts_included(EVEN, ODD, relation), True)
        for pair in ((-2, -2), (-2, -1), (-1, -2), (2, 2), (2, 0), (0, 2), (1, 2), (-1, 10 ** 30), (10 ** 30, 0),
                     (-(10 ** 30), 0)):
            for judge in (accepts_equal, accepts_included):
                self.assertIs(judge(EVEN, ODD, tuple(sorted(relation + (pair,)))), False)
                self.assertIs(judge(EVEN, EVEN, tuple(sorted(relation + (pair,)))), False)

    def test_true_and_false_are_no_states(self):
        self.assertIs(accepts_equal(EVEN, EVEN, ((-1, -1), (0, 0), (1, 1))), True)
        for value in (((-1, -1), (False, 0), (1, 1)), ((-1, -1), (0, False), (1, 1)), ((-1, -1), (0, 0), (True, 1)),
                      ((-1, -1), (0, 0), (1, True)), ((-1, -1), (False, False), (True, True)), (True, False)):
            for judge in (accepts_equal, accepts_included):
                self.assertIs(judge(EVEN, EVEN, value), False)

    def test_other_forms(self):
        for value in ([(-1, -1), (0, 0), (1, 1)], ((-1, -1), [0, 0], (1, 1)), ((-1, -1), (0, 0), [1, 1]),
                      ((-1, -1), (0, 0, 0), (1, 1)), ((-1, -1), (0,), (1, 1)), ((-1, -1), (0, 0), (1, "1")),
                      ((-1, -1), (0, 0), (1, None)), ((-1, -1), (0, 0), (1.0, 1)), ((None, -1), (0, 0), (1, 1)),
                      (-1, 0, 1), ((-1, -1), (0, 0), (1, 1), ()), ((-1, -1), (0, 0), (1, 1), None), None, True, "",
                      ("00", "11"), {(0, 0): 1}, ((-1, -1), (0, 0), (1, (1,))), (((-1, -1), (0, 0), (1, 1)),)):
            for judge in (accepts_equal, accepts_included):
                self.assertIs(judge(EVEN, EVEN, value), False, value)

    def test_strange_values(self):
        for one, other in ((EVEN, EVEN), ("", ""), ("a", ("many", "a"))):
            for at, value in enumerate(STRANGE + [deep_list(5000), deep_tuple(5000), deep_row(5000)]):
                with self.subTest(at=at):
                    for judge in (accepts_equal, accepts_included):
                        self.assertIs(judge(one, other, value), False)
                        self.assertIs(judge(one, other, ((0, 0), value)), False)
                        self.assertIs(judge(one, other, (value, (0, 0))), value == (-1, -1) and one == "")

    def test_nothing_is_changed(self):
        value = [[-1, -1], [0, 0], [1, 1]]
        for judge in (accepts_equal, accepts_included, accepts_telling):
            judge(EVEN, EVEN, value)
        self.assertEqual(value, [[-1, -1], [0, 0], [1, 1]])


class Telling(unittest.TestCase):
    def test_against_all_words(self):
        words = words_up_to(4, "abc")
        for one, other in pairs_of(SMALL + LARGER, 57, 150):
            for word in words:
                told = matches(one, word) != matches(other, word)
                self.assertIs(accepts_telling(one, other, word), told, (one, other, word))

    def test_long_words(self):
        for many in (24, 25, 26, 59, 60, 61, 62, 999, 1000, 1001, 100000):
            self.assertIs(accepts_telling(EVEN, ODD, "ab" * (many // 2) + "a" * (many % 2)), many % 2 == 1)
            self.assertIs(accepts_telling(MANY[0], MANY[1], "a" * many), (many % 2 == 0) != (many % 3 == 0))
            self.assertIs(accepts_telling("", ("many", "d"), "d" * many), True)
            self.assertIs(accepts_telling("", ("many", "d"), "d" * many + "c"), False)

    def test_other_values(self):
        every = ("many", ("or", ("a", "b", "c", "d")))
        self.assertIs(accepts_telling("", every, "abcd"), True)
        for value in ("abce", "e", "A", " ", "ab ", "a\n", "abcd" * 1000 + "e", ("a",), ["a"], ("a", "b"), None, True,
                      False, 0, 1, b"a", 1.5, {}, {"a": 1}, [], (), ((0, 0),)):
            self.assertIs(accepts_telling("", every, value), False)
            self.assertIs(accepts_telling(every, "", value), False)
            self.assertIs(accepts_telling("a", every, value), False)
        for at, value in enumerate(STRANGE + [deep_list(5000), deep_tuple(5000), deep_row(5000)]):
            with self.subTest(at=at):
                told = isinstance(value, str) and value in ("a", "ab")
                self.assertIs(accepts_telling("", every, value), told)

    def test_never_both_a_word_and_a_relation(self):
        for one, other in pairs_of(SMALL + LARGER, 58, 300):
            equal = are_equal(one, other)
            self.assertIs(accepts_equal(one, other, told_relation(one, other)), equal)
            word = telling_word(one, other)
            self.assertIs(word is None, equal)
            self.assertIs(accepts_telling(one, other, word), not equal)
            if equal:
                self.assertFalse(any(accepts_telling(one, other, word) for word in words_up_to(3)))


class Included(unittest.TestCase):
    def test_going_on(self):
        including = {one: [other for other in SMALL if is_included(one, other)] for one in SMALL}
        for one in SMALL:
            self.assertIn(one, including[one])
            for other in including[one]:
                self.assertTrue(set(including[other]) <= set(including[one]), (one, other))

    def test_or_maybe_and_many(self):
        checked = 0
        for one, other in pairs_of(SMALL + LARGER, 59, 200):
            for either in (("or", (one, other)), ("or", (other, one)), ("or", ("c", one, "d"))):
                if is_expression(either):
                    checked += 1
                    self.assertIs(is_included(one, either), True)
            for word in ("maybe", "many"):
                if is_expression(("many", (word, one))):
                    checked += 1
                    self.assertIs(is_included(one, (word, one)), True)
                    self.assertIs(are_equal(("many", (word, one)), ("many", one)), True)
        self.assertGreater(checked, 400)


class Wrong(unittest.TestCase):
    def functions(self):
        for function in (is_included, are_equal, telling_word, told_relation):
            yield function
        for value in (((0, 0),), "a", None, deep_row(1000)):
            for judge in (accepts_equal, accepts_included, accepts_telling):
                yield lambda first, second, judge=judge, value=value: judge(first, second, value)

    def test_bad_values(self):
        wrong = {"first": NOT_SHORT, "second": NOT_SHORT}
        good = {"first": "a", "second": ("many", "a")}
        for function in self.functions():
            assert_bad_values(self, function, ["first", "second"], good, wrong)

    def test_too_large(self):
        for large in TOO_LARGE:
            for first, second in ((large, "a"), ("a", large), (large, large), (LARGE, large)):
                for function in self.functions():
                    with self.assertRaises(TooLarge) as caught:
                        function(first, second)
                    self.assertEqual(caught.exception.what, "states")

    def test_bad_values_ahead_of_too_large(self):
        for function in self.functions():
            for first, second, name in ((HUGE, None, "second"), (None, HUGE, "first"), (HUGE, ("a",), "second")):
                with self.assertRaises(BadValue) as caught:
                    function(first, second)
                self.assertEqual(caught.exception.name, name)
