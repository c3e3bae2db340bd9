"""Points 41 to 45, 49 and 50: automata, and how many words are right."""

import random
import unittest
from itertools import permutations
from time import process_time

from nodoubt.automata import automaton_of, count_words, first_words, is_automaton, state_behind
from nodoubt.errors import TooLarge
from nodoubt.expressions import matches
from nodoubt.simple import renamed, simple
from tests.helper import (
    HUGE, LARGE, LETTERS, NOT_SHORT, NO_WORDS, STRANGE, TOO_LARGE, all_expressions, assert_bad_values, deep_list,
    deep_row, deep_tuple, larger_ones, leaf_letters, merged_automaton, parts_within, right_words, run, takes,
    told_automaton, words_about, words_up_to,
)

SMALL = all_expressions(4, ["a", "b", ""]) + all_expressions(5, ["a", "b"])[::4]

LARGER = larger_ones(41, 600, 24, False) + larger_ones(42, 300, 24, False, ["a", "b", "a", ""])


def automaton_by_rests(expression, most):
    """The automaton by rests: of words of at most so many letters, and only with words that are not longer."""
    right = right_words(expression, 2 * most)
    live = {word[:many] for word in right for many in range(min(len(word), most) + 1)}
    rest = {word: frozenset(each[len(word):] for each in right if each.startswith(word)
                            and len(each) <= len(word) + most) for word in live}
    found, firsts, moves = [rest[""]], [""], []
    for at, word in enumerate(firsts):
        for letter in LETTERS:
            if word + letter in rest:
                if rest[word + letter] not in found:
                    found.append(rest[word + letter])
                    firsts.append(word + letter)
                moves.append((at, letter, found.index(rest[word + letter])))
    return (tuple("" in each for each in found), tuple(moves)), tuple(firsts)


class AutomatonOf(unittest.TestCase):
    def test_against_rests(self):
        for expression in SMALL:
            automaton, firsts = automaton_by_rests(expression, 5)
            self.assertLess(len(firsts), 6)
            self.assertEqual(automaton_of(expression), automaton, expression)
            self.assertEqual(first_words(expression), firsts, expression)

    def test_against_what_can_come_behind(self):
        states = set()
        for expression in LARGER:
            automaton = automaton_of(expression)
            self.assertEqual(automaton, told_automaton(expression), expression)
            states.add(len(automaton[0]))
            self.assertLessEqual(len(automaton[0]), 2 ** len(leaf_letters(expression)))
        self.assertTrue(set(range(1, 11)) <= states, states)

    def test_takes_exactly_the_right_words(self):
        numbers = random.Random(43)
        for expression in LARGER[::4]:
            automaton = automaton_of(expression)
            for word in words_about(expression, numbers) + words_up_to(3, "abc"):
                self.assertIs(takes(automaton, word), matches(expression, word), (expression, word))

    def test_no_automaton_with_fewer_states(self):
        for expression in LARGER + [LARGE]:
            ends, moves = automaton_of(expression)
            # All states are found in their order, and some word tells each two of them apart.
            self.assertEqual(merged_automaton(list(ends), moves), (ends, moves))

    def test_every_state_has_a_rest(self):
        for expression in LARGER:
            ends, moves = automaton_of(expression)
            alive = {state for state, end in enumerate(ends) if end}
            for _ in ends:
                alive |= {start for start, _, end in moves if end in alive}
            self.assertEqual(len(alive), len(ends), expression)

    def test_numbers(self):
        self.assertEqual(automaton_of(("or", (("join", ("d", "a")), ("join", ("b", "c", "a"))))),
                         ((False, False, False, True),
                          ((0, "b", 1), (0, "d", 2), (1, "c", 2), (2, "a", 3))))
        self.assertEqual(automaton_of(("join", (("many", ("or", ("b", "a"))), "b", ("or", ("b", "a"))))),
                         ((False, False, True, True),
                          ((0, "a", 0), (0, "b", 1), (1, "a", 2), (1, "b", 3), (2, "a", 0), (2, "b", 1), (3, "a", 2),
                           (3, "b", 3))))
        self.assertEqual(automaton_of(""), ((True,), ()))
        self.assertEqual(automaton_of(("many", ("or", ("", "")))), ((True,), ()))
        self.assertEqual(automaton_of("c"), ((False, True), ((0, "c", 1),)))
        self.assertEqual(automaton_of(("many", ("or", ("d", "a")))), ((True,), ((0, "a", 0), (0, "d", 0))))
        # Equal rests of unlike places are one state, also that of the beginning.
        self.assertEqual(automaton_of(("many", ("join", ("a", "b")))), ((True, False), ((0, "a", 1), (1, "b", 0))))
        self.assertEqual(automaton_of(("or", (("join", ("a", "c")), ("join", ("b", "c"))))),
                         ((False, False, True), ((0, "a", 1), (0, "b", 1), (1, "c", 2))))

    def test_kinds(self):
        for expression in ("", ("many", ("join", (("maybe", "a"), "b")))):
            automaton = automaton_of(expression)
            self.assertTrue(type(automaton) is tuple and type(automaton[0]) is tuple and type(automaton[1]) is tuple)
            self.assertTrue(all(type(each) is bool for each in automaton[0]))
            self.assertTrue(all([type(x) for x in move] == [int, str, int] for move in automaton[1]))
            self.assertTrue(all(type(move) is tuple for move in automaton[1]))
            self.assertIs(is_automaton(automaton), True)
            self.assertIs(type(first_words(expression)), tuple)

    def test_equal_exactly_if_the_same_words_are_right(self):
        by_words, by_automata = {}, {}
        for expression in SMALL:
            words = frozenset(right_words(expression, 9))
            automaton = automaton_of(expression)
            self.assertEqual(by_words.setdefault(words, automaton), automaton, expression)
            self.assertEqual(by_automata.setdefault(automaton, words), words, expression)
        self.assertGreater(len(by_words), 60)
        for expression in LARGER:
            self.assertEqual(automaton_of(simple(expression)), automaton_of(expression))

    def test_letters_exchanged(self):
        for at, order in enumerate(permutations("abcd")):
            for expression in LARGER[at::60]:
                other = renamed(expression, "".join(order))
                self.assertEqual(len(automaton_of(other)[0]), len(automaton_of(expression)[0]))

    def test_a_part_can_have_more_states(self):
        whole = ("many", ("or", (("join", ("a", "a")), "a")))
        self.assertIn(("join", ("a", "a")), parts_within(whole))
        self.assertEqual((len(automaton_of(whole)[0]), len(automaton_of(("join", ("a", "a")))[0])), (1, 3))

    def test_large(self):
        automaton = automaton_of(LARGE)
        self.assertEqual(len(automaton[0]), 40)
        self.assertEqual(automaton, told_automaton(LARGE))
        self.assertEqual(len(first_words(LARGE)), 40)
        self.assertEqual(len(automaton_of(("many", ("join", ("a",) * 6 + (("or", ("a", ("many", "b"))),))))[0]), 38)


class FirstWords(unittest.TestCase):
    def test_first_words(self):
        for expression in LARGER + [LARGE]:
            automaton = automaton_of(expression)
            words = first_words(expression)
            self.assertEqual(list(words), sorted(words, key=lambda word: (len(word), word)))
            self.assertEqual([run(automaton, word) for word in words], list(range(len(automaton[0]))))
            self.assertTrue(all(type(word) is str for word in words))
            first = {}
            for word in words_up_to(4, "abcd"):
                first.setdefault(run(automaton, word), word)
            self.assertTrue(all(words[state] == word for state, word in first.items() if state != -1))
            self.assertTrue(all(len(words[state]) > 4 for state in range(len(words)) if state not in first))

    def test_some(self):
        self.assertEqual(first_words(""), ("",))
        self.assertEqual(first_words(("or", (("join", ("d", "a")), ("join", ("b", "c", "a"))))), ("", "b", "d", "da"))
        self.assertEqual(first_words(("join", ("a",) * 8)), tuple("a" * many for many in range(9)))


class StateBehind(unittest.TestCase):
    def test_state_behind(self):
        numbers = random.Random(44)
        told = {True: 0, False: 0}
        for expression in SMALL[::5] + LARGER[::3]:
            automaton = told_automaton(expression)
            words = words_about(expression, numbers) + words_up_to(3, "abc")
            for word in words:
                state = run(automaton, word)
                self.assertEqual(state_behind(expression, word), None if state == -1 else state, (expression, word))
                told[state == -1] += 1
        self.assertTrue(min(told.values()) > 1000)

    def test_first_words_lead_to_their_states(self):
        for expression in LARGER[:100]:
            for state, word in enumerate(first_words(expression)):
                if len(word) <= 24:
                    self.assertEqual(state_behind(expression, word), state)

    def test_24_letters(self):
        self.assertEqual(state_behind(("many", ("join", ("a", "b"))), "ab" * 12), 0)
        self.assertEqual(state_behind(("many", ("join", ("a", "b"))), "ab" * 11 + "a"), 1)
        self.assertIsNone(state_behind(("many", ("join", ("a", "b"))), "ab" * 11 + "aa"))
        self.assertIsNone(state_behind(("many", "a"), "b" + "a" * 23))

    def test_none_and_zero(self):
        self.assertEqual(state_behind("", ""), 0)
        self.assertIs(type(state_behind("a", "a")), int)
        self.assertIsNone(state_behind("", "a"))
        self.assertIsNone(state_behind("a", "aa"))
        self.assertEqual(state_behind("a", "a"), 1)

    def test_more_than_40_states(self):
        for many in range(25):
            self.assertEqual(state_behind(HUGE, "a" * many), many)
        self.assertIsNone(state_behind(HUGE, "aab"))
        for expression in TOO_LARGE:
            automaton = told_automaton(expression)
            self.assertGreater(len(automaton[0]), 40)
            for word in words_up_to(4, "abcd"):
                state = run(automaton, word)
                self.assertEqual(state_behind(expression, word), None if state == -1 else state)


class CountWords(unittest.TestCase):
    def test_against_listing(self):
        for expression in SMALL + LARGER[::4]:
            right = right_words(expression, 5)
            for length in range(6):
                told = sum(len(word) == length for word in right)
                self.assertEqual(count_words(expression, length), told, (expression, length))

    def test_against_counting(self):
        for expression in LARGER[::10] + TOO_LARGE + [LARGE]:
            ends, moves = told_automaton(expression)
            # How many words lead from 0 to each state.
            many = [1] + [0] * (len(ends) - 1)
            for length in range(61):
                told = sum(count for count, end in zip(many, ends) if end)
                self.assertEqual(count_words(expression, length), told, (expression, length))
                further = [0] * len(ends)
                for start, _, end in moves:
                    further[end] += many[start]
                many = further

    def test_large_numbers(self):
        every = ("many", ("or", ("a", "b", "c", "d")))
        self.assertEqual([count_words(every, length) for length in range(61)], [4 ** length for length in range(61)])
        ends = ("join", (("many", ("or", ("a", "b", "c"))), "d", ("many", ("or", ("a", "d")))))
        self.assertEqual(count_words(ends, 60), sum(3 ** k * 2 ** (59 - k) for k in range(60)))
        self.assertEqual(count_words(("many", ("or", ("a", ("join", ("a", "a"))))), 60), 1)
        self.assertEqual(count_words(("many", ("or", ("a", ("join", ("b", "c"))))), 59), 1548008755920)

    def test_some(self):
        self.assertEqual([count_words("", length) for length in range(4)], [1, 0, 0, 0])
        self.assertEqual([count_words("a", length) for length in range(4)], [0, 1, 0, 0])
        # Each word counts once, however many markings it has.
        self.assertEqual(count_words(("or", ("a", "a", "b")), 1), 2)
        self.assertEqual(count_words(("join", (("maybe", "a"),) * 8), 4), 1)
        self.assertIs(type(count_words("a", 60)), int)

    def test_more_than_40_states(self):
        sums = {7 * one + 8 * other for one in range(9) for other in range(9)}
        self.assertEqual([count_words(HUGE, many) for many in range(61)], [int(many in sums) for many in range(61)])

    def test_lengths(self):
        wrong = [-1, 61, 62, -60, 10 ** 30, -(10 ** 30), True, False, None, "", "1", "a", (), (1,), [], [1], 1.0, 0.0,
                 deep_list(1000), deep_tuple(1000), deep_row(1000)]
        good = {"expression": "a", "length": 0}
        assert_bad_values(self, count_words, ["expression", "length"], good,
                          {"expression": NOT_SHORT, "length": wrong})
        self.assertEqual((count_words("a", 0), count_words("a", 60)), (0, 0))


class IsAutomaton(unittest.TestCase):
    def check(self, values, told):
        for at, value in enumerate(values):
            with self.subTest(at=at):
                self.assertIs(is_automaton(value), told)

    def test_automata(self):
        self.check([automaton_of(expression) for expression in LARGER[:100] + [LARGE]], True)
        self.check([
            ((True,), ()),
            ((False,), ()),
            ((False, False), ()),
            ((True, True), ((1, "a", 1),)),
            ((True,), ((0, "a", 0), (0, "b", 0), (0, "c", 0), (0, "d", 0))),
            ((False, True), ((0, "d", 1), (1, "a", 0))),
            # Not numbered as found, not reached, and with the same rests.
            ((False, True, True), ((0, "a", 2), (0, "b", 1), (2, "c", 2))),
            ((True, True), ((0, "a", 1), (1, "a", 0))),
        ], True)

    def test_other_forms(self):
        self.check([
            ((), ()),
            ((True,),),
            ((True,), (), ()),
            (),
            [(True,), ()],
            ([True], ()),
            ((True,), []),
            ((True,), None),
            (None, ()),
            (True, ()),
            ((True,), {}),
            ((True,), ""),
            ("a", ()),
            ((True,), "a"),
            ((1,), ()),
            ((0,), ()),
            ((None,), ()),
            ((True, 1), ()),
            ((0, True), ((0, "a", 1),)),
            (("True",), ()),
            (((True,),), ()),
            ((True,), ((0, "a"),)),
            ((True,), ((0, "a", 0, 0),)),
            ((True,), ([0, "a", 0],)),
            ((True,), (0, "a", 0)),
            ((True,), ("0a0",)),
            ((True,), ((),)),
            ((True,), (None,)),
            ((True,), (True,)),
        ], False)

    def test_states_and_letters_that_there_are_not(self):
        self.check([((True, False), (move,)) for move in [
            (0, "a", 2), (2, "a", 0), (0, "a", -1), (-1, "a", 0), (0, "e", 0), (0, "", 0), (0, "ab", 0), (0, "A", 0),
            (0, None, 0), (0, True, 0), (0, 0, 0), ("a", 0, 0), (0, ("a",), 0), (0, ["a"], 0), (None, "a", 0),
            (0, "a", None), ("0", "a", 0), (0, "a", "0"), (10 ** 30, "a", 0), (0, "a", 10 ** 30), (0, "a", 300),
            (0.0, "a", 0), (0, "a", 1.0), ((0,), "a", 0), (0, "a", [0]), (0, "a", deep_row(1000)),
            (deep_list(1000), "a", 0), (0, deep_tuple(1000), 0), (0, b"a", 0), ({}, "a", 0), (0, {}, 0),
        ]], False)
        self.check([((True, False), ((0, "a", 1),)), ((True, False), ((1, "d", 0),))], True)

    def test_true_and_false_are_no_states(self):
        self.check([((True, False), (move,)) for move in [
            (False, "a", 0), (0, "a", False), (True, "a", 0), (0, "a", True), (False, "a", True),
        ]], False)

    def test_moves_out_of_order_or_twice(self):
        states = (True, False, True)
        right = ((0, "a", 1), (0, "b", 0), (1, "a", 2), (2, "d", 0))
        self.assertIs(is_automaton((states, right)), True)
        for order in permutations(right):
            self.assertIs(is_automaton((states, order)), order == right)
        for move in right:
            self.assertIs(is_automaton((states, tuple(sorted(right + (move,))))), False)
        # Two moves from a state by a letter.
        for move in ((0, "a", 0), (0, "a", 2), (0, "b", 1), (1, "a", 0), (2, "d", 2)):
            self.assertIs(is_automaton((states, tuple(sorted(right + (move,))))), False)
        for move in ((0, "c", 0), (1, "b", 2), (2, "a", 2)):
            self.assertIs(is_automaton((states, tuple(sorted(right + (move,))))), True)

    def test_many_states(self):
        for many, told in ((1, True), (299, True), (300, True), (301, False), (302, False), (10000, False)):
            moves = tuple((state, "a", state + 1) for state in range(many - 1))
            self.assertIs(is_automaton(((True,) * many, moves)), told)
            self.assertIs(is_automaton(((False,) * many, ())), told)
        every = tuple((state, letter, 299 - state) for state in range(300) for letter in LETTERS)
        self.assertIs(is_automaton(((True, False) * 150, every)), True)
        self.assertIs(is_automaton(((True, False) * 150, every + ((299, "d", 1),))), False)
        self.assertIs(is_automaton(((True, False) * 150, every[:-1] + ((299, "d", 300),))), False)
        self.assertIs(is_automaton(((True, False) * 150, every * 100)), False)

    def test_strange_values(self):
        for at, value in enumerate(STRANGE + [deep_list(5000), deep_tuple(5000), deep_row(5000)]):
            with self.subTest(at=at):
                self.assertIs(is_automaton(value), False)
                self.assertIs(is_automaton((value, ())), value in ((True,), (False,)) and type(value[0]) is bool
                              if type(value) is tuple and len(value) == 1 else False)
                self.assertIs(is_automaton(((True,), value)), False)
                self.assertIs(is_automaton((value, value)), False)

    def test_nothing_is_changed(self):
        value = ([True], [[0, "a", 0]])
        is_automaton(value)
        self.assertEqual(value, ([True], [[0, "a", 0]]))


class Wrong(unittest.TestCase):
    def test_bad_values(self):
        wrong = {"expression": NOT_SHORT, "word": NO_WORDS}
        for function in (automaton_of, first_words):
            assert_bad_values(self, function, ["expression"], {}, wrong)
        assert_bad_values(self, state_behind, ["expression", "word"], {"expression": "a", "word": "a"}, wrong)

    def test_too_large(self):
        for expression in TOO_LARGE:
            for function in (automaton_of, first_words):
                with self.assertRaises(TooLarge) as caught:
                    function(expression)
                self.assertEqual(caught.exception.what, "states")

    def test_quick_to_refuse(self):
        self.assertEqual(min(len(told_automaton(expression)[0]) for expression in TOO_LARGE), 41)
        begin = process_time()
        for expression in TOO_LARGE:
            self.assertLessEqual(len(leaf_letters(expression)), 8)
            with self.assertRaises(TooLarge):
                automaton_of(expression)
        self.assertLess(process_time() - begin, 2)
