"""Points 46 to 48 and 50: evidence for automata, and its judge."""

import unittest
from itertools import combinations, permutations, product

from nodoubt.automata import automaton_of
from nodoubt.errors import TooLarge
from nodoubt.judging import accepts_automaton, automaton_evidence
from nodoubt.markings import first_places, following, last_places
from tests.helper import (
    LARGE, LETTERS, NOT_SHORT, STRANGE, TOO_LARGE, all_expressions, assert_bad_values, deep_list, deep_row, deep_tuple,
    larger_ones, leaf_letters, run, takes, told_automaton, words_up_to,
)

SMALL = all_expressions(4, ["a", "b", ""]) + all_expressions(5, ["a"])
LARGER = larger_ones(46, 250, 24, False) + larger_ones(47, 150, 24, False, ["a", "b", "a", ""])

# After a and after c the same can come, but by other places.
TWICE = ("or", (("join", ("a", "b")), ("join", ("c", "b"))))
TWICE_AUTOMATON = ((False, False, True), ((0, "a", 1), (0, "c", 1), (1, "b", 2)))
TWICE_NAMING = ((1, (0,)), (1, (2,)), (2, (1,)), (2, (3,)))
TWICE_TELLING = ((0, 1, "b"), (0, 2, ""), (1, 2, ""))

EVEN = ("many", ("join", ("a", "a")))
EVEN_AUTOMATON = ((True, False), ((0, "a", 1), (1, "a", 0)))
EVEN_NAMING = ((0, (1,)), (1, (0,)))


def behind(expression, near, letter):
    letters = leaf_letters(expression)
    return tuple(sorted({place for place in near if letters[place] == letter}))


def near_row(expression, row):
    return [other for place in row for other in following(expression, place)]


def is_right_naming(expression, automaton, naming):
    """Point 46, of tuples of an integer and a tuple of integers."""
    ends, moves = automaton
    places = range(len(leaf_letters(expression)))
    if list(naming) != sorted(set(naming)) or any(state not in range(len(ends)) for state, _ in naming):
        return False
    if any(list(row) != sorted(set(row)) or any(place not in places for place in row) for _, row in naming):
        return False
    last = set(last_places(expression))
    if ends[0] != takes(told_automaton(expression), "") or any(ends[s] != bool(last & set(row)) for s, row in naming):
        return False
    for state, near in [(0, first_places(expression))] + [(s, near_row(expression, row)) for s, row in naming]:
        for letter in LETTERS:
            row = behind(expression, near, letter)
            to = [end for start, by, end in moves if (start, by) == (state, letter)]
            if len(to) != (1 if row else 0) or any((end, row) not in naming for end in to):
                return False
    return True


def are_telling_words(automaton, telling):
    """Point 47, of tuples of two integers and a string."""
    pairs = list(combinations(range(len(automaton[0])), 2))
    if [(one, other) for one, other, _ in telling] != pairs:
        return False
    return all(len(word) <= 60 and set(word) <= set(LETTERS)
               and takes(automaton, word, one) != takes(automaton, word, other) for one, other, word in telling)


def is_numbered_as_found(automaton):
    found = [0]
    for state in found:
        found += [end for start, _, end in automaton[1] if start == state and end not in found]
    # Moves are in the order of the letters, but two of a state can lead to one state.
    found = list(dict.fromkeys(found))
    return found == list(range(len(automaton[0])))


def is_evidence(expression, automaton, value):
    naming, telling = value
    return (len(automaton[0]) <= 40 and is_numbered_as_found(automaton)
            and is_right_naming(expression, automaton, naming) and are_telling_words(automaton, telling))


def told_evidence(expression, automaton):
    """Evidence for the automaton of the expression, as a test makes it."""
    found = []
    waiting = [(0, None)]
    for state, row in waiting:
        near = first_places(expression) if row is None else near_row(expression, row)
        for letter in LETTERS:
            pair = (run(automaton, letter, state), behind(expression, near, letter))
            if pair[1] and pair not in found:
                found.append(pair)
                waiting.append(pair)
    telling = [(one, other, telling_word(automaton, one, other)) for one, other in
               combinations(range(len(automaton[0])), 2)]
    return tuple(sorted(found)), tuple(telling)


def telling_word(automaton, one, other):
    words = {(one, other): ""}
    for pair in words_in_turn(words):
        if takes(automaton, "", pair[0]) != takes(automaton, "", pair[1]):
            return words[pair]
        for letter in LETTERS:
            behind_pair = tuple(run(automaton, letter, state) if state != -1 else -1 for state in pair)
            words.setdefault(behind_pair, words[pair] + letter)
    return None


def words_in_turn(words):
    at = 0
    while at < len(words):
        yield list(words)[at]
        at += 1


class Evidence(unittest.TestCase):
    def check(self, expression):
        automaton = automaton_of(expression)
        evidence = automaton_evidence(expression)
        self.assertTrue(is_evidence(expression, automaton, evidence), expression)
        self.assertIs(accepts_automaton(expression, automaton, evidence), True, expression)
        told = told_evidence(expression, automaton)
        self.assertTrue(is_evidence(expression, automaton, told), expression)
        self.assertIs(accepts_automaton(expression, automaton, told), True, expression)

    def test_small_ones(self):
        for expression in SMALL:
            self.check(expression)

    def test_larger_ones(self):
        for expression in LARGER:
            self.check(expression)

    def test_40_states(self):
        self.assertEqual(len(automaton_of(LARGE)[0]), 40)
        self.check(LARGE)
        naming, telling = automaton_evidence(LARGE)
        automaton = automaton_of(LARGE)
        self.assertEqual(len(telling), 780)
        for value in ((naming, telling[:-1]), (naming[:-1], telling), (naming[1:], telling), (naming, telling[1:])):
            self.assertIs(accepts_automaton(LARGE, automaton, value), False)

    def test_more_than_40_states(self):
        for expression in TOO_LARGE:
            automaton = told_automaton(expression)
            self.assertGreater(len(automaton[0]), 40)
            naming, telling = told_evidence(expression, automaton)
            self.assertTrue(is_right_naming(expression, automaton, naming))
            self.assertTrue(are_telling_words(automaton, telling))
            self.assertIs(accepts_automaton(expression, automaton, (naming, telling)), False)
            with self.assertRaises(TooLarge) as caught:
                automaton_evidence(expression)
            self.assertEqual(caught.exception.what, "states")
        ends = (False,) * 40 + (True,)
        moves = tuple((state, "a", state + 1) for state in range(40))
        self.assertIs(accepts_automaton("a", (ends, moves), (((1, (0,)),), ())), False)

    def test_kinds(self):
        for expression in ("", TWICE, EVEN):
            evidence = automaton_evidence(expression)
            naming, telling = evidence
            self.assertEqual([type(each) for each in (evidence, naming, telling)], [tuple] * 3)
            self.assertTrue(all(type(pair) is tuple and type(pair[1]) is tuple for pair in naming))
            self.assertTrue(all([type(x) for x in each] == [int, int, str] for each in telling))


class Judge(unittest.TestCase):
    def check(self, expression, automaton, value):
        told = is_evidence(expression, automaton, value)
        self.assertIs(accepts_automaton(expression, automaton, value), told, (expression, automaton, value))
        # Whoever wrote it: what is accepted is so.
        self.assertTrue(not told or automaton == told_automaton(expression))
        return told

    def test_all_values_of_two_states_and_one_place(self):
        namings = [naming for many in range(5) for naming in combinations(sorted(product((0, 1), ((), (0,)))), many)]
        ways = [[None, 0, 1]] * 4
        accepted = set()
        for ends in product((False, True), repeat=2):
            for to in product(*ways):
                moves = [(start, letter, end) for (start, letter), end in zip(product((0, 1), "ab"), to)
                         if end is not None]
                for expression in ("", "a", ("many", "a"), ("maybe", "b"), ("many", ("many", "b"))):
                    for naming in namings:
                        for word in ("", "a", "aa"):
                            value = (naming, ((0, 1, word),))
                            if self.check(expression, (ends, tuple(moves)), value):
                                accepted.add((expression, naming, word))
        # No word of these tells the states of ("maybe", "b") apart, and the others have one state.
        self.assertEqual(accepted, {("a", ((1, (0,)),), ""), ("a", ((1, (0,)),), "a")})

    def test_all_values_of_one_state(self):
        for ends in ((False,), (True,)):
            for letters in ("", "a", "b", "ab"):
                automaton = (ends, tuple((0, letter, 0) for letter in letters))
                for expression in ("", "a", ("many", "a"), ("many", ("or", ("a", "b"))), ("many", ("or", ("a", "a")))):
                    rows = [row for many in range(3) for row in combinations((0, 1), many)]
                    for many in range(4):
                        for naming in combinations([(0, row) for row in rows], many):
                            self.check(expression, automaton, (tuple(sorted(naming)), ()))

    def test_all_namings_of_two_places(self):
        rows = [(), (0,), (0, 1), (1,)]
        pairs = sorted(product((0, 1), rows))
        namings = [naming for many in range(9) for naming in combinations(pairs, many)]
        told = {}
        for expression in (EVEN, ("join", (("many", "a"), "a")), ("join", ("a", ("many", "a"))), ("or", ("a", "a"))):
            for ends in product((False, True), repeat=2):
                for to in product((None, 0, 1), repeat=2):
                    moves = tuple((start, "a", end) for start, end in enumerate(to) if end is not None)
                    for naming in namings:
                        if self.check(expression, (ends, moves), (naming, ((0, 1, ""),))):
                            told.setdefault(expression, []).append(naming)
        self.assertIn(((1, (0,)), (1, (1,))), told[("join", ("a", ("many", "a")))])
        self.assertEqual(told[("or", ("a", "a"))][0], ((1, (0, 1)),))
        # The one that is needed, and others that are right but not needed.
        self.assertTrue(all(len(found) > 1 for expression, found in told.items() if expression != EVEN))

    def test_two_pairs_for_one_state(self):
        self.assertEqual(automaton_of(TWICE), TWICE_AUTOMATON)
        self.assertIs(accepts_automaton(TWICE, TWICE_AUTOMATON, (TWICE_NAMING, TWICE_TELLING)), True)

    def test_pairs_more_than_needed(self):
        for more in ([(1, (0, 2)), (2, (1, 3))], [(2, (1, 3))]):
            naming = tuple(sorted(TWICE_NAMING + tuple(more)))
            self.assertIs(self.check(TWICE, TWICE_AUTOMATON, (naming, TWICE_TELLING)), True)
            self.assertIs(accepts_automaton(TWICE, TWICE_AUTOMATON, (naming, TWICE_TELLING)), True)
        # These are not right, or need another pair.
        for more in ([(1, (0, 2))], [(0, (0,))], [(1, ())], [(2, (0,))], [(1, (1,))], [(2, ())], [(0, ())],
                     [(1, (0, 1))]):
            naming = tuple(sorted(TWICE_NAMING + tuple(more)))
            self.assertIs(accepts_automaton(TWICE, TWICE_AUTOMATON, (naming, TWICE_TELLING)), False, more)

    def test_pairs_left_out_changed_twice_or_out_of_order(self):
        for expression in [TWICE, EVEN] + LARGER[:60]:
            automaton = automaton_of(expression)
            naming, telling = automaton_evidence(expression)
            states, places = len(automaton[0]), len(leaf_letters(expression))
            for at, (state, row) in enumerate(naming):
                head, tail = naming[:at], naming[at + 1:]
                self.check(expression, automaton, (head + tail, telling))
                self.assertIs(accepts_automaton(expression, automaton, (head + naming[at:at + 1] * 2 + tail, telling)),
                              False)
                if at:
                    other = naming[:at - 1] + (naming[at], naming[at - 1]) + tail
                    self.assertIs(accepts_automaton(expression, automaton, (other, telling)), False)
                for pair in [(other, row) for other in range(-1, states + 1) if other != state] + [
                        (state, tuple(sorted(set(row) ^ {place}))) for place in range(-1, places + 1)]:
                    other = tuple(sorted(head + (pair,) + tail))
                    self.check(expression, automaton, (other, telling))
                    self.check(expression, automaton, (tuple(sorted(set(naming + (pair,)))), telling))
                for pair in [(state, row + row[:1]), (state, row[::-1] + (0,)), (state, row + (None,)), (state,),
                             (state, row, 0), [state, row], (state, list(row)), (str(state), row), (None, row),
                             (float(state), row), (state, None), (state, 0), (state, "0"), state, row, (row, state),
                             (state, tuple(map(float, row))), (state, tuple(map(str, row)))]:
                    other = head + (pair,) + tail
                    self.assertIs(accepts_automaton(expression, automaton, (other, telling)), False, pair)

    def test_telling_words(self):
        for expression in [TWICE, EVEN] + LARGER[60:110]:
            automaton = automaton_of(expression)
            naming, telling = automaton_evidence(expression)
            for value in (telling[1:], telling[:-1], telling + telling[-1:], telling + ((0, 1, ""),), ()):
                self.assertIs(accepts_automaton(expression, automaton, (naming, value)), value == telling)
            for at, (one, other, word) in list(enumerate(telling))[:12]:
                head, tail = telling[:at], telling[at + 1:]
                for each in words_up_to(2, "ab") + [word + "a", "b" + word, "a" * 60, "a" * 61, "d" * 60]:
                    self.check(expression, automaton, (naming, head + ((one, other, each),) + tail))
                if tail:
                    self.assertIs(accepts_automaton(expression, automaton, (naming, head + tail[:1] + telling[at:at + 1]
                                                                            + tail[1:])), False)
                for each in [(other, one, word), (one, one, word), (other, other, word), (one, other), (one, other, word, 0),
                             (one, other, None), (one, other, word + "e"), (one, other, word + "A"), (one, other, ()),
                             (one, other, tuple(word)), (one, other, 0), (one, other, True), [one, other, word],
                             (str(one), other, word), (float(one), other, word), (one, None, word), None, word,
                             (one, other + 1, word), (one - 1, other, word), (one, other, [word]),
                             ((one,), other, word), (one, other, "a" * 100000), (one, float(other), word)]:
                    value = head + (each,) + tail
                    self.assertIs(accepts_automaton(expression, automaton, (naming, value)), False, each)

    def test_60_letters(self):
        self.assertEqual(automaton_of(EVEN), EVEN_AUTOMATON)
        for many in (0, 1, 2, 59, 60):
            value = (EVEN_NAMING, ((0, 1, "a" * many),))
            self.assertIs(accepts_automaton(EVEN, EVEN_AUTOMATON, value), True)
        for word in ("a" * 61, "a" * 62, "a" * 10000, "b", "ab", "a" * 59 + "b", "d", "e", "a" * 59 + "e", " ", "A"):
            value = (EVEN_NAMING, ((0, 1, word),))
            self.assertIs(accepts_automaton(EVEN, EVEN_AUTOMATON, value), False)

    def test_changed_automata(self):
        for expression in [TWICE, EVEN] + LARGER[:40]:
            ends, moves = automaton_of(expression)
            evidence = automaton_evidence(expression)
            others = [(ends[:at] + (not ends[at],) + ends[at + 1:], moves) for at in range(len(ends))]
            others += [(ends, moves[:at] + moves[at + 1:]) for at in range(len(moves))]
            others += [(ends, moves[:at] + ((start, letter, other),) + moves[at + 1:])
                       for at, (start, letter, end) in enumerate(moves) for other in range(len(ends)) if other != end]
            others += [(ends, tuple(sorted(moves + ((start, letter, 0),)))) for start in range(len(ends))
                       for letter in LETTERS if run((ends, moves), letter, start) == -1]
            for automaton in others:
                self.assertIs(self.check(expression, automaton, evidence), False)
            for automaton in ((ends + (True,), moves), (ends[:-1], moves), (ends, moves[::-1]), (ends, moves + moves[-1:]),
                              (ends, list(moves)), (list(ends), moves), [ends, moves], (ends,), (ends, moves, ()),
                              (moves, ends), (tuple(map(int, ends)), moves), (tuple(map(str, ends)), moves)):
                if repr(automaton) != repr((ends, moves)):
                    self.assertIs(accepts_automaton(expression, automaton, evidence), False, automaton)

    def test_integers_for_true_and_false(self):
        self.assertIs(accepts_automaton("a", ((False, True), ((0, "a", 1),)), (((1, (0,)),), ((0, 1, ""),))), True)
        for automaton, value in (
            (((0, 1), ((0, "a", 1),)), (((1, (0,)),), ((0, 1, ""),))),
            (((False, 1), ((0, "a", 1),)), (((1, (0,)),), ((0, 1, ""),))),
            (((False, True), ((False, "a", 1),)), (((1, (0,)),), ((0, 1, ""),))),
            (((False, True), ((0, "a", True),)), (((1, (0,)),), ((0, 1, ""),))),
            (((False, True), ((0, "a", 1),)), (((True, (0,)),), ((0, 1, ""),))),
            (((False, True), ((0, "a", 1),)), (((1, (False,)),), ((0, 1, ""),))),
            (((False, True), ((0, "a", 1),)), (((1, (0,)),), ((False, 1, ""),))),
            (((False, True), ((0, "a", 1),)), (((1, (0,)),), ((0, True, ""),))),
        ):
            self.assertIs(accepts_automaton("a", automaton, value), False)

    def test_two_states_that_are_the_same(self):
        automaton = ((True, True), ((0, "a", 1), (1, "a", 1)))
        naming = ((1, (0,)),)
        self.assertTrue(is_right_naming(("many", "a"), automaton, naming))
        for word in words_up_to(3, "ab"):
            self.assertIs(accepts_automaton(("many", "a"), automaton, (naming, ((0, 1, word),))), False)
        self.assertIs(accepts_automaton(("many", "a"), automaton, (naming, ())), False)

    def test_states_numbered_otherwise(self):
        # In the second one the state that is found last can come first and lead to the other one, too.
        for some in (("or", (("join", ("d", "a")), ("join", ("b", "c", "a")))),
                     ("or", (("join", ("a", "c")), ("join", ("b", "d", "c"))))):
            ends, moves = automaton_of(some)
            for order in permutations(range(4)):
                automaton = (tuple(ends[order.index(state)] for state in range(4)),
                             tuple(sorted((order[start], letter, order[end]) for start, letter, end in moves)))
                naming, telling = automaton_evidence(some)
                naming = tuple(sorted((order[state], row) for state, row in naming))
                telling = tuple(sorted((min(order[one], order[other]), max(order[one], order[other]), word)
                                       for one, other, word in telling))
                self.assertTrue(are_telling_words(automaton, telling))
                self.assertIs(accepts_automaton(some, automaton, (naming, telling)), order == (0, 1, 2, 3))
                if order[0] == 0:
                    self.assertTrue(is_right_naming(some, automaton, naming))

    def test_states_that_are_never_found(self):
        naming = ((1, (0,)),)
        for automaton, telling in (
            (((False, True, True), ((0, "a", 1), (2, "a", 1))), ((0, 1, ""), (0, 2, ""), (1, 2, "a"))),
            (((False, True, True), ((0, "a", 1), (2, "a", 2))), ((0, 1, ""), (0, 2, ""), (1, 2, "a"))),
            (((False, True, False), ((0, "a", 1), (2, "b", 1))), ((0, 1, ""), (0, 2, "a"), (1, 2, ""))),
        ):
            self.assertTrue(is_right_naming("a", automaton, naming) and are_telling_words(automaton, telling))
            self.assertIs(accepts_automaton("a", automaton, (naming, telling)), False)

    def test_strange_values(self):
        automaton, value = automaton_of(TWICE), (TWICE_NAMING, TWICE_TELLING)
        one_state = ((True,), ())
        self.assertIs(accepts_automaton("", one_state, ((), ())), True)
        for at, strange in enumerate(STRANGE + [deep_list(5000), deep_tuple(5000), deep_row(5000), ((), ())]):
            with self.subTest(at=at):
                self.assertIs(accepts_automaton(TWICE, strange, value), False)
                self.assertIs(accepts_automaton(TWICE, automaton, strange), False)
                self.assertIs(accepts_automaton(TWICE, strange, strange), False)
                self.assertIs(accepts_automaton(TWICE, automaton, (strange, TWICE_TELLING)), False)
                self.assertIs(accepts_automaton(TWICE, automaton, (TWICE_NAMING, strange)), False)
                self.assertIs(accepts_automaton("", one_state, ((), strange)), False)
                self.assertIs(accepts_automaton("", one_state, (strange, ())), False)

    def test_other_forms(self):
        naming, telling = TWICE_NAMING, TWICE_TELLING
        for value in ([naming, telling], (list(naming), telling), (naming, list(telling)), (naming,), (telling, naming),
                      (naming, telling, ()), (), (naming, telling, None), (naming, None), (None, telling), naming,
                      telling, None, True, {0: naming, 1: telling}, "ab"):
            self.assertIs(accepts_automaton(TWICE, TWICE_AUTOMATON, value), False)

    def test_nothing_is_changed(self):
        value = [[[1, [0]]], [[0, 1, ""]]]
        automaton = [[False, True], [[0, "a", 1]]]
        accepts_automaton("a", automaton, value)
        self.assertEqual((automaton, value), ([[False, True], [[0, "a", 1]]], [[[1, [0]]], [[0, 1, ""]]]))


class Wrong(unittest.TestCase):
    def test_bad_values(self):
        assert_bad_values(self, automaton_evidence, ["expression"], {}, {"expression": NOT_SHORT})
        for automaton, value in ((((True,), ()), ((), ())), (None, None), (deep_row(1000), True)):
            assert_bad_values(self, lambda expression: accepts_automaton(expression, automaton, value),
                              ["expression"], {}, {"expression": NOT_SHORT})
