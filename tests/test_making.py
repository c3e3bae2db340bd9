"""Points 84 to 92: expressions that are made without a doubt."""

import random
import unittest
from time import process_time

from nodoubt.automata import automaton_of, state_behind
from nodoubt.comparing import are_equal
from nodoubt.doubts import conflicts, is_sure
from nodoubt.errors import TooLarge
from nodoubt.expressions import is_expression, is_long, matches, sizes
from nodoubt.inward import accepts_reason, first_reason
from nodoubt.making import Layer, count_made, made, made_behind, made_in_bounds
from nodoubt.orbits import system_of
from nodoubt.simple import greatest_length, simple
from tests.helper import (
    HUGE, LARGE, LETTERS, NOT_SHORT, NO_WORDS, TOO_LARGE, all_expressions, assert_bad_values, larger_ones,
    leaf_letters, picked_word, run, told_automaton, told_consistent, told_cut, told_exits, told_gates, told_inner,
    told_orbit, told_round, told_system, words_about, words_up_to,
)

SMALL = all_expressions(4, ["a", "b", ""]) + all_expressions(5, ["a", "b"])[::3]
LARGER = larger_ones(84, 900, 24, False) + larger_ones(85, 700, 24, False, ["a", "b", "a", ""])

ENDS = ("join", (("many", ("or", ("a", "b"))), "a"))
PAIRS = ("join", (("many", ("join", ("a", "b"))), ("maybe", "a")))
ROW = ("join", tuple(("maybe", letter) for letter in "abcdabcd"))

# What is made of these has 52, 62 and 67 places.
LONG_MADE = [
    ("join", (("maybe", "a"), ("many", "b"), ("many", ("join", ("a", "b", "b", "c"))))),
    ("many", ("join", (("maybe", ("join", ("a", "b"))), ("maybe", "b"), ("many", ("join", ("b", "d"))),
                       ("or", ("a", "a"))))),
    ("join", (("maybe", ("or", ("a", "c"))), ("or", (("many", "a"), ("many", "b"))),
              ("many", ("join", ("a", "a"))), ("many", ("join", ("c", "d"))))),
]


def joined_parts(pieces):
    """What follows one another (point 88)."""
    parts = []
    for piece in pieces:
        if piece != "":
            parts += piece[1] if piece[0] == "join" else [piece]
    return ("join", tuple(parts)) if len(parts) > 1 else parts[0] if parts else ""


def told_branches(pairs, system):
    ends = list(dict.fromkeys(end for _, end in pairs))
    parts = []
    for end in ends:
        letters = tuple(letter for letter, other in pairs if other == end)
        branch = joined_parts([("or", letters) if len(letters) > 1 else letters[0], told_body(end, system)])
        parts += branch[1] if branch[0] == "or" else [branch]
    return ("or", tuple(parts)) if len(parts) > 1 else parts[0]


def told_body(state, system):
    orbit = told_orbit(system, state)
    pieces = [told_made(told_inner(system, orbit), state)] if told_round(system, orbit) else []
    found = told_gates(system, orbit)
    ways = [told_exits(system, gate) for gate in found]
    if ways and ways[0]:
        branches = told_branches(ways[0], system)
        pieces.append(("maybe", branches) if found[0] in system[2] else branches)
    return joined_parts(pieces)


def told_made(system, state):
    """What is made from the system and the state (point 85), of any size."""
    again = told_consistent(system)
    if not again:
        return told_body(state, system)
    rest = told_cut(system)
    return joined_parts([told_body(state, rest), ("many", told_branches(again, rest))])


def can_be_made(expression):
    return first_reason(told_system(expression)) is None


class Made(unittest.TestCase):
    def test_part_by_part(self):
        told = {"made": 0, "none": 0, "large": 0}
        for expression in SMALL + LARGER + LONG_MADE:
            if not can_be_made(expression):
                told["none"] += 1
                self.assertIsNone(made(expression))
                continue
            expected = told_made(told_system(expression), 0)
            if is_long(expected):
                told["made"] += 1
                self.assertEqual(made(expression), expected, expression)
            else:
                told["large"] += 1
                with self.assertRaises(TooLarge) as caught:
                    made(expression)
                self.assertEqual(caught.exception.what, "places")
        self.assertTrue(min(told.values()) > 2 and told["none"] > 20, told)

    def test_no_doubt_and_the_same_words(self):
        checked = 0
        for expression in SMALL + LARGER:
            other = made_or_none(expression)
            if other is not None:
                checked += 1
                self.assertIs(is_long(other), True)
                self.assertEqual(conflicts(other), [], (expression, other))
                self.assertIs(is_sure(other), True)
                self.assertEqual(told_automaton(other), automaton_of(expression), (expression, other))
                if is_expression(other):
                    self.assertIs(are_equal(expression, other), True)
                for word in words_up_to(2):
                    self.assertIs(matches(other, word), matches(expression, word))
        self.assertGreater(checked, 800)

    def test_none_exactly_if_there_is_a_reason(self):
        for expression in SMALL + LARGER:
            system = system_of(automaton_of(expression))
            reason = first_reason(system)
            if reason is not None:
                self.assertIs(accepts_reason(system, reason), True)
                self.assertIs(is_sure(expression), False)
                self.assertIsNone(made(expression))
                self.assertIsNone(count_made(expression))
            else:
                self.assertGreaterEqual(count_made(expression), 0)

    def test_the_same_for_equal_words(self):
        of = {}
        for expression in SMALL + LARGER:
            other = made_or_none(expression)
            self.assertEqual(of.setdefault(automaton_of(expression), other), other, expression)
            self.assertEqual(made_or_none(simple(expression)), other)
        self.assertLess(len(of), len(SMALL + LARGER) * 3 // 4)

    def test_made_again(self):
        checked = 0
        for expression in SMALL + LARGER:
            other = made_or_none(expression)
            if other is not None and is_expression(other):
                checked += 1
                self.assertEqual(made(other), other, expression)
        self.assertGreater(checked, 600)

    def test_many_exactly_if_there_are_infinitely_many_words(self):
        told = {True: 0, False: 0}
        for expression in SMALL + LARGER:
            other = made_or_none(expression)
            if other is not None:
                infinite = greatest_length(expression) is None
                self.assertIs("'many'" in repr(other), infinite)
                told[infinite] += 1
        self.assertTrue(min(told.values()) > 100)

    def test_some(self):
        for expression, told in (
            ("", ""),
            ("c", "c"),
            (("many", ""), ""),
            (("maybe", "a"), ("maybe", "a")),
            (("or", ("b", "a")), ("or", ("a", "b"))),
            (("or", ("b", "a", "")), ("maybe", ("or", ("a", "b")))),
            (("many", ("maybe", "a")), ("many", "a")),
            (("many", ("or", ("d", "b"))), ("many", ("or", ("b", "d")))),
            (("or", ("a", ("join", ("a", "a")))), ("join", ("a", ("maybe", "a")))),
            (("join", (("maybe", "a"), "b")), ("or", (("join", ("a", "b")), "b"))),
            (("join", (("many", "a"), "a")), ("join", ("a", ("many", "a")))),
            # Several letters to one state, in the order of the first ones.
            (("or", (("join", ("c", "d")), ("join", ("b", "a")), ("join", ("a", "d")))),
             ("or", (("join", (("or", ("a", "c")), "d")), ("join", ("b", "a"))))),
            # Branches with and without something behind them; letters alone are put into the row.
            (("or", (("join", ("b", "b")), "c", "a", "d")), ("or", ("a", "c", "d", ("join", ("b", "b"))))),
            (("or", (("join", ("b", "b")), "a", ("join", ("c", "d")))),
             ("or", ("a", ("join", ("b", "b")), ("join", ("c", "d"))))),
            # Gates that are accepting, and others.
            (("join", (("many", "a"), ("maybe", "b"))), ("join", (("many", "a"), ("maybe", "b")))),
            (("join", (("many", "a"), "b")), ("join", (("many", "a"), "b"))),
            (("join", (("many", ("join", ("a", "b"))), "c")), ("join", (("many", ("join", ("a", "b"))), "c"))),
            (("many", ("join", ("a", ("many", "b"), "c"))), ("many", ("join", ("a", ("many", "b"), "c")))),
            (("many", ("join", ("a", ("or", ("b", "c"))))), ("many", ("join", ("a", ("or", ("b", "c")))))),
        ):
            self.assertEqual(made(expression), told, expression)
            self.assertEqual(told_made(told_system(expression), 0), told)

    def test_none(self):
        for expression in (PAIRS, ("many", ("join", ("a", "b", ("maybe", "a")))),
                           ("join", (("many", ("or", ("a", "b"))), "a", ("or", ("a", "b"))))):
            self.assertIsNone(made(expression))
            self.assertIsNone(count_made(expression))
            for word in ("", "a", "ab", "d"):
                self.assertIsNone(made_behind(expression, word))

    def test_deep_ones(self):
        inner = ("join", ("a", ("many", "d"), "b"))
        some = ("many", ("join", ("c", ("many", inner), "d")))
        self.assertIs(is_sure(some), True)
        self.assertEqual(made(some), some)


def made_or_none(expression):
    """The made expression, or None if there is none that can be returned."""
    try:
        return made(expression)
    except TooLarge:
        return None


class CountMade(unittest.TestCase):
    def test_against_the_places(self):
        counts = set()
        for expression in SMALL + LARGER + LONG_MADE:
            if can_be_made(expression):
                told = len(leaf_letters(told_made(told_system(expression), 0)))
                self.assertEqual(count_made(expression), told, expression)
                counts.add(told)
        self.assertTrue(set(range(20)) <= counts, counts)

    def test_too_long_to_be_returned(self):
        for expression, told in [(ROW, 223)] + list(zip(LONG_MADE, (52, 62, 67))):
            self.assertEqual(count_made(expression), told)
            self.assertEqual(len(leaf_letters(told_made(told_system(expression), 0))), told)
            with self.assertRaises(TooLarge) as caught:
                made(expression)
            self.assertEqual(caught.exception.what, "places")

    def test_bound(self):
        many = {letter: ("many", letter) for letter in LETTERS}
        maybe = {letter: ("maybe", letter) for letter in LETTERS}
        for expression, told in (
            (("join", (maybe["c"], maybe["a"], maybe["b"], "d", maybe["d"], "c")), 39),
            (("join", (many["d"], maybe["a"], maybe["c"], many["b"], many["a"], "d")), 40),
            (("join", (many["b"], many["d"], many["c"], ("many", ("join", ("b", "a"))))), 41),
            (("join", ("c", maybe["a"], maybe["b"], many["c"], many["d"], "b")), 42),
        ):
            self.assertEqual(count_made(expression), told)
            self.assertEqual(len(leaf_letters(told_made(told_system(expression), 0))), told)
            if told <= 40:
                self.assertEqual(made(expression), told_made(told_system(expression), 0))
                self.assertEqual(made_behind(expression, ""), made(expression))
                continue
            for function in (made, lambda each: made_behind(each, "")):
                with self.assertRaises(TooLarge) as caught:
                    function(expression)
                self.assertEqual(caught.exception.what, "places")

    def test_stays_quick(self):
        # Each state leads to the next four: step by step far too many places would be written to count them all.
        moves = tuple((state, letter, state + more) for state in range(40) for more, letter in enumerate(LETTERS, 1)
                      if state + more < 40)
        many = [0] * 40
        for start, _, end in reversed(moves):
            many[start] += 1 + many[end]
        self.assertGreater(many[0], 10 ** 10)
        with self.assertRaises(TooLarge) as caught:
            made_in_bounds(Layer((tuple(range(40)), moves, (39,))), 0)
        self.assertEqual(caught.exception.what, "places")
        begin = process_time()
        self.assertEqual(count_made(ROW), 223)
        self.assertGreater(count_made(LARGE), 223)
        self.assertLess(process_time() - begin, 2)

    def test_kinds(self):
        self.assertIs(type(count_made("a")), int)
        self.assertEqual((count_made(""), count_made(ENDS), count_made(("many", "a"))), (0, 6, 1))
        self.assertIsNone(count_made(PAIRS))


class MadeBehind(unittest.TestCase):
    def test_behind_words(self):
        numbers = random.Random(91)
        checked = 0
        for expression in SMALL[::2] + LARGER[::4]:
            if not can_be_made(expression):
                continue
            automaton, system = told_automaton(expression), told_system(expression)
            for word in words_up_to(2) + words_about(expression, numbers)[:12]:
                state = run(automaton, word)
                if state == -1:
                    self.assertIsNone(made_behind(expression, word), (expression, word))
                    continue
                told = told_made(system, state)
                if is_long(told):
                    checked += 1
                    self.assertEqual(made_behind(expression, word), told, (expression, word))
                    self.assertIs(is_sure(told), True)
                else:
                    with self.assertRaises(TooLarge) as caught:
                        made_behind(expression, word)
                    self.assertEqual(caught.exception.what, "places")
        self.assertGreater(checked, 2000)

    def test_right_behind_the_word(self):
        numbers = random.Random(92)
        for expression in SMALL[::4] + LARGER[::9]:
            for word in words_up_to(2, "ab") + [picked_word(expression, numbers)[:12]]:
                try:
                    other = made_behind(expression, word)
                except TooLarge:
                    continue
                if other is not None:
                    for more in words_up_to(3, "abc"):
                        self.assertIs(matches(other, more), matches(expression, word + more), (expression, word, more))

    def test_the_same_exactly_if_the_same_can_follow(self):
        for expression in SMALL[::3] + LARGER[::6]:
            if can_be_made(expression):
                by_state = {}
                for word in words_up_to(3, "abc"):
                    state = state_behind(expression, word)
                    if state is not None:
                        try:
                            by_state.setdefault(state, set()).add(made_behind(expression, word))
                        except TooLarge:
                            by_state.setdefault(state, set()).add(state)
                self.assertTrue(all(len(found) == 1 for found in by_state.values()))
                self.assertEqual(len(set.union(*by_state.values())), len(by_state))

    def test_some(self):
        again = ("many", ("or", ("a", ("join", ("b", ("many", "b"), "a")))))
        self.assertEqual(made_behind(ENDS, ""), made(ENDS))
        self.assertEqual(made_behind(ENDS, "a"), again)
        self.assertEqual(made_behind(ENDS, "ab" * 12), made(ENDS))
        self.assertEqual(made_behind(ENDS, "ba" * 12), again)
        self.assertIsNone(made_behind(ENDS, "c"))
        self.assertIsNone(made_behind(ENDS, "a" * 23 + "d"))
        self.assertEqual(made_behind("a", "a"), "")
        self.assertIsNone(made_behind("a", "b"))
        self.assertIsNone(made_behind("a", "aa"))
        self.assertEqual(made_behind("", ""), "")
        for expression in SMALL + LARGER[::8]:
            self.assertEqual(made_or_none(expression), made_behind_or_none(expression))

    def test_only_what_is_returned_must_be_short(self):
        # What is made of the row is too long, but not what can follow behind d.
        with self.assertRaises(TooLarge):
            made_behind(ROW, "")
        with self.assertRaises(TooLarge):
            made_behind(ROW, "a")
        self.assertIsNone(made_behind(ROW, "dda" + "aa"))
        self.assertEqual(made_behind(ROW, "abcdabcd"), "")
        self.assertEqual(made_behind(ROW, "abcdabc"), ("maybe", "d"))
        self.assertEqual(len(leaf_letters(made_behind(ROW, "d"))), 15)


def made_behind_or_none(expression):
    try:
        return made_behind(expression, "")
    except TooLarge:
        return None


class Wrong(unittest.TestCase):
    def test_bad_values(self):
        wrong = {"expression": NOT_SHORT, "word": NO_WORDS}
        for function in (made, count_made):
            assert_bad_values(self, function, ["expression"], {}, wrong)
        assert_bad_values(self, made_behind, ["expression", "word"], {"expression": "a", "word": "a"}, wrong)
        assert_bad_values(self, lambda word: made_behind(HUGE, word), ["word"], {}, wrong)
        assert_bad_values(self, lambda word: made_behind(ROW, word), ["word"], {}, wrong)

    def test_too_many_states(self):
        for expression in TOO_LARGE:
            for function in (made, count_made, lambda each: made_behind(each, ""), lambda each: made_behind(each, "dddc")):
                with self.assertRaises(TooLarge) as caught:
                    function(expression)
                self.assertEqual(caught.exception.what, "states")

    def test_places_only_if_an_expression_would_be_returned(self):
        self.assertEqual(count_made(ROW), 223)
        self.assertIsNone(made_behind(ROW, "aaa"))
        self.assertGreater(count_made(LARGE), 40)
        self.assertIsNone(made_behind(LARGE, "bb"))

    def test_too_deep(self):
        # What is made of so few places is hardly ever so deep, so this begins with a system.
        for states, told in ((20, True), (21, True), (22, False), (30, False)):
            moves = tuple((state, "a", state + 1) for state in range(states - 1))
            system = (tuple(range(states)), moves, tuple(range(states)))
            expected = told_made(system, 0)
            self.assertEqual(leaf_letters(expected), "a" * (states - 1))
            self.assertIs(is_long(expected), told)
            if told:
                self.assertEqual(made_in_bounds(Layer(system), 0), expected)
            else:
                with self.assertRaises(TooLarge) as caught:
                    made_in_bounds(Layer(system), 0)
                self.assertEqual(caught.exception.what, "places")

    def test_deep_and_many_parts_are_in_the_bounds(self):
        for expression in SMALL + LARGER:
            other = made_or_none(expression)
            if other is not None:
                self.assertTrue(all(one <= most for one, most in zip(sizes(other), (40, 40, 200))))
