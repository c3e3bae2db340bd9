"""Points 94 to 103: certificates, and what they tell of expressions with the same right words."""

import random
import unittest
from itertools import permutations, product
from time import process_time
from unittest import mock

from nodoubt.automata import automaton_of, state_behind
from nodoubt.certificates import accepts, can_be_sure, certificate, shortest_never
from nodoubt.comparing import are_equal
from nodoubt.doubts import is_sure
from nodoubt.errors import TooLarge
from nodoubt.expressions import is_expression, is_long
from nodoubt.inward import accepts_reason, first_reason, is_smooth, simple_paths
from nodoubt.making import count_made, made, made_behind
from nodoubt.orbits import system_of
from nodoubt.simple import greatest_length, renamed, simple, turned
from tests.helper import (
    HUGE, LARGE, LARGEST, LONGEST, NOT_LONG, NOT_SHORT, STRANGE, TOO_LARGE, all_expressions,
    assert_bad_values, deep_list, deep_row, deep_tuple, larger_ones, leaf_letters, merged_automaton, picked_word,
    random_stairs, told_automaton, told_system, words_up_to, wrapped,
)
from tests.test_doubts import told_conflicts
from tests.test_inward import SYSTEMS, random_path, told_behind, told_reasons
from tests.test_making import LONG_MADE, ROW, told_made

SMALL = all_expressions(4, ["a", "b", ""]) + all_expressions(5, ["a", "b"])[::4]
LARGER = larger_ones(94, 700, 24, False) + larger_ones(95, 500, 24, False, ["a", "b", "a", ""])

ENDS = ("join", (("many", ("or", ("a", "b"))), "a"))
PAIRS = ("join", (("many", ("join", ("a", "b"))), ("maybe", "a")))
OTHER_ENDS = ("join", (("many", "b"), "a", ("many", ("join", (("many", "b"), "a")))))

# The first reason goes inward twice; the shortest one, by a later path, once.
BOTH = ("or", (("many", ("join", (PAIRS[1] + ("c",)))), ("join", ("d",) + PAIRS[1])))

# Others, often with reasons that no expression without a doubt has their words.
NEVER = [each for part in LARGER for each in [
    ("join", (PAIRS[1][0], ("maybe", part))), ("many", ("or", (part, "a"))), ("many", ("join", ("d", part))),
    ("many", ("join", (part, ("maybe", "a")))), ("join", ("d",) + (PAIRS[1][0], ("maybe", part)))]
         if is_expression(each) and len(told_automaton(each)[0]) <= 40]


BOTHS = [renamed(BOTH, "".join(order)) for order in permutations("abcd")] + [turned(BOTH)]


def told_shortest(system):
    """The first of the reasons with a simple path that has the fewest states, of a list of all of these."""
    reasons = told_reasons(system)
    fewest = min((len(path) for path, _ in reasons), default=None)
    return next((reason for reason in reasons if len(reason[0]) == fewest), None)


def told_sure(expression, other):
    """Whether point 95 accepts the other one, with "sure"."""
    return is_long(other) and told_conflicts(other) == [] and told_automaton(other) == told_automaton(expression)


class Told(unittest.TestCase):
    def test_against_all_reasons_and_what_is_made(self):
        told = {"sure": 0, "never": 0, "large": 0}
        for expression in SMALL + LARGER + NEVER + LONG_MADE:
            system = told_system(expression)
            reasons = told_reasons(system)
            if reasons:
                told["never"] += 1
                self.assertEqual(certificate(expression), ("never", reasons[0]), expression)
                continue
            other = told_made(system, 0)
            if is_long(other):
                told["sure"] += 1
                self.assertEqual(certificate(expression), ("sure", other), expression)
                self.assertEqual(certificate(expression), ("sure", made(expression)))
            else:
                told["large"] += 1
                with self.assertRaises(TooLarge) as caught:
                    certificate(expression)
                self.assertEqual(caught.exception.what, "places")
        self.assertTrue(told["sure"] > 500 and told["never"] > 100 and told["large"] > 4, told)

    def test_accepted_and_told_by_is_smooth(self):
        for expression in SMALL + LARGER + NEVER + LONG_MADE:
            smooth = is_smooth(system_of(automaton_of(expression)))
            self.assertIs(can_be_sure(expression), smooth, expression)
            found = certificate_or_none(expression)
            if found is None:
                self.assertTrue(smooth and count_made(expression) > 0)
                continue
            self.assertEqual(found[0], "sure" if smooth else "never")
            self.assertIs(accepts(expression, found), True, expression)
            exchanged = ("never" if smooth else "sure", found[1])
            self.assertIs(accepts(expression, exchanged), False, expression)

    def test_kinds(self):
        for expression in (ENDS, PAIRS, "", "a", BOTH):
            found = certificate(expression)
            self.assertIs(type(found), tuple)
            self.assertIs(type(found[0]), str)
            self.assertEqual(len(found), 2)
            self.assertIs(type(can_be_sure(expression)), bool)

    def test_some(self):
        for expression, told in (
            ("", ("sure", "")),
            ("a", ("sure", "a")),
            (("or", ("b", "a")), ("sure", ("or", ("a", "b")))),
            (ENDS, ("sure", ("join", (("many", "b"), "a", (
                "many", ("or", ("a", ("join", ("b", ("many", "b"), "a"))))))))),
            (PAIRS, ("never", ((), ("stuck",)))),
            (("join", ("d",) + PAIRS[1]), ("never", ((1,), ("stuck",)))),
            (BOTH, ("never", ((1, 1), ("stuck",)))),
        ):
            self.assertEqual(certificate(expression), told)


def certificate_or_none(expression):
    """The told certificate, or None if it is too long."""
    try:
        return certificate(expression)
    except TooLarge:
        return None


class AcceptsSure(unittest.TestCase):
    def test_all_pairs(self):
        expressions = all_expressions(3, ["a", "b", ""]) + SMALL[::25] + LARGER[::60] + [ENDS, OTHER_ENDS, PAIRS]
        accepted = 0
        for expression, other in product(expressions, repeat=2):
            told = told_sure(expression, other)
            self.assertIs(accepts(expression, ("sure", other)), told, (expression, other))
            self.assertIs(accepts(expression, ("never", other)), False)
            accepted += told
        self.assertGreater(accepted, 100)

    def test_the_same_words_with_and_without_conflicts(self):
        told = {True: 0, False: 0}
        numbers = random.Random(96)
        for expression in SMALL + LARGER[::3]:
            for other in (expression, simple(expression), ("or", (expression, "")), ("join", (expression, expression)),
                          ("many", expression), ("or", (expression, expression)), numbers.choice(SMALL)):
                if is_long(other):
                    answer = told_sure(expression, other)
                    self.assertIs(accepts(expression, ("sure", other)), answer, (expression, other))
                    told[answer] += 1
        self.assertTrue(min(told.values()) > 200, told)

    def test_one_word_more_or_less(self):
        some = ("or", (("join", ("a", "b")), "c"))
        self.assertIs(accepts(some, ("sure", some)), True)
        self.assertIs(accepts(some, ("sure", ("or", ("c", ("join", ("a", ("maybe", ""), "b")))))), True)
        for other in (("maybe", some), ("or", some[1] + ("",)), ("or", some[1] + ("d",)), ("join", ("a", "b")), "c", "",
                      ("or", ("c", "")), ("or", (("join", ("a", "b")), "c", "c")), ("many", some),
                      ("or", (("join", ("a", ("maybe", "b"))), "c"))):
            self.assertIs(accepts(some, ("sure", other)), False, other)
        self.assertIs(accepts("", ("sure", "")), True)
        self.assertIs(accepts("", ("sure", ("many", ("or", ("", ""))))), True)
        for other in ("a", ("maybe", "a"), ("many", "a"), ("or", ("", "d"))):
            self.assertIs(accepts("", ("sure", other)), False)
            self.assertIs(accepts(other, ("sure", "")), False)
        # The words differ only behind many letters.
        many = ("many", "a")
        for count in (7, 8, 39):
            other = ("join", (("maybe", "a"),) * count + ("a",))
            self.assertIs(accepts(many, ("sure", other)), False)
        other = up_to(20)
        self.assertIs(is_sure(other), True)
        self.assertIs(accepts(many, ("sure", other)), False)
        self.assertIs(accepts(many, ("sure", ("maybe", ("join", ("a", ("many", "a")))))), True)

    def test_long_ones(self):
        chain = ("join", ("a",) * 8)
        for other, told in ((("join", ("a",) * 8 + ("",) * 32), True), (("join", ("",) * 191 + ("a",) * 8), True),
                            (("join", ("",) * 192 + ("a",) * 8), False), (("join", ("a",) * 9), False),
                            (("join", ("a",) * 40), False), (("join", ("a",) * 41), False),
                            (("or", (chain, "b")), False), (("or", (chain, chain)), False)):
            self.assertIs(accepts(chain, ("sure", other)), told, other)
        # Forty deep is let, one more is not.
        many = ("many", "a")
        for deep, told in ((1, True), (39, True), (40, True), (41, False), (60, False)):
            self.assertIs(accepts(many, ("sure", wrapped("many", deep, "a"))), told)
        # Forty places are let, two more are not.
        letters = ("or", ("a", "b"))
        for places, told in ((2, True), (36, True), (38, True), (40, True), (42, False), (44, False)):
            self.assertIs(accepts(("many", letters), ("sure", row_of_twos(places))), told, places)
        self.assertIs(accepts("a", ("sure", LARGEST)), False)

    def test_forty_places(self):
        # So many letters ahead, each of which can be the last one, and then many times some at once.
        for ahead, behind in ((36, 4), (32, 8), (35, 5), (33, 7), (33, 8), (39, 1), (38, 2), (40, 1), (20, 6), (37, 2)):
            other = ("many", ("join", ("a",) * behind)) if behind > 1 else ("many", "a")
            for _ in range(ahead // 10):
                other = ("maybe", ("join", ("a",) * 10 + (other,)))
            other = ("join", ("a",) * (ahead % 10) + (other,)) if ahead % 10 else other
            for many in (1, 2, 4, 5, 8):
                expression = ("many", ("join", ("a",) * many)) if many > 1 else ("many", "a")
                self.assertIs(accepts(expression, ("sure", other)), told_sure(expression, other), (ahead, behind, many))
        for behind in (1, 2, 4, 5, 8):
            many = ("many", ("join", ("a",) * behind)) if behind > 1 else ("many", "a")
            other = many
            for _ in range(40 // behind - 1):
                other = ("maybe", ("join", ("a",) * behind + (other,)))
            # The "maybe" of a "join" is two deep, so that of single letters is too deep.
            self.assertEqual((leaf_letters(other), is_long(other)), ("a" * 40, behind > 1))
            self.assertIs(accepts(many, ("sure", other)), behind > 1)
            self.assertIs(accepts(many, ("sure", ("or", (other, "b")))), False)

    def test_more_than_forty_states(self):
        begin = process_time()
        longest = ("join", ("a", "b", "c", "d") * 10)
        around = ("many", ("join", ("a",) * 39 + (("maybe", "b"),)))
        self.assertEqual(len(told_automaton(longest)[0]), 41)
        with self.assertRaises(TooLarge):
            for each in TOO_LARGE:
                accepts(each, ("sure", "a"))
        for expression in ("a", "", ENDS, PAIRS, ROW, LARGE):
            for other in (longest, around, ("maybe", longest), ("join", (("many", "b"),) + ("a",) * 39),
                          ("or", ("a",) * 40), ("many", ("or", ("a", "b") * 20)),
                          ("join", (("many", ("or", ("a", "b"))), "a") + (("or", ("a", "b")),) * 18)):
                self.assertIs(is_long(other), True)
                self.assertIs(accepts(expression, ("sure", other)), False, (expression, other))
        self.assertLess(process_time() - begin, 4)

    def test_no_long_expressions(self):
        for expression in ("a", "", ENDS, PAIRS):
            for at, value in enumerate(NOT_LONG):
                with self.subTest(at=at):
                    self.assertIs(accepts(expression, ("sure", value)), False)
                    self.assertIs(accepts(expression, ("never", value)), False)
                    self.assertIs(accepts(expression, ("sure", ("many", value))), False)
            for other in LONGEST:
                self.assertIs(accepts(expression, ("sure", other)), told_sure(expression, other))


def up_to(many):
    """Up to so many letters a, without a doubt."""
    other = ("maybe", "a")
    for _ in range(many - 1):
        other = ("maybe", ("join", ("a", other)))
    return other


def row_of_twos(places):
    """All words of a and b, with so many places, two for each letter of a word and two for the rest of it."""
    letters = ("or", ("a", "b"))
    other = ("many", letters)
    for _ in range(places // 2 - 1):
        other = ("maybe", ("join", (letters, other)))
    return other


class AcceptsNever(unittest.TestCase):
    def test_reasons_of_all_kinds(self):
        numbers = random.Random(97)
        told = {True: 0, False: 0}
        for expression in SMALL[::3] + LARGER[::2] + NEVER + [PAIRS, BOTH]:
            system = told_system(expression)
            reasons = told_reasons(system)
            others = [reason for reason in reasons[:6]]
            others += [(path, trouble[:1] + trouble[:0:-1]) for path, trouble in reasons[:6]]
            others += [(path + path, trouble) for path, trouble in reasons[:3]]
            path = random_path(numbers, system, 3)
            states = system[0]
            others += [(path, ("stuck",)), ((), ("stuck",)), ((0,), ("stuck",)), ((0, 0), ("stuck",)),
                       (path, ("gates", numbers.choice(states), numbers.choice(states))), ((), ("gates", 0, 1))]
            for reason in others:
                answer = told_behind(system, reason[0]) is not None and accepts_reason(system, reason)
                self.assertIs(accepts(expression, ("never", reason)), answer, (expression, reason))
                self.assertIs(accepts(expression, ("sure", reason)), False)
                self.assertTrue(reason not in reasons or answer)
                # Never both: what the judge accepts is so.
                self.assertTrue(not answer or reasons)
                told[answer] += 1
        self.assertTrue(min(told.values()) > 200, told)

    def test_whichever_states_and_longer_paths(self):
        for path in ((), (0,), (1,), (1, 0, 1), (0,) * 40):
            self.assertIs(accepts(PAIRS, ("never", (path, ("stuck",)))), True)
        for path in ((2,), (0,) * 41, (-1,), (True,), [0], None, 0):
            self.assertIs(accepts(PAIRS, ("never", (path, ("stuck",)))), False)
        behind = ("join", ("d",) + PAIRS[1])
        for path in ((1,), (2,), (2, 1), (1, 1, 2)):
            self.assertIs(accepts(behind, ("never", (path, ("stuck",)))), True)
        for path in ((), (0,), (0, 1), (1, 0)):
            self.assertIs(accepts(behind, ("never", (path, ("stuck",)))), False)

    def test_gates_in_either_sequence(self):
        checked = 0
        for expression in NEVER:
            for path, trouble in told_reasons(told_system(expression)):
                if trouble[0] == "gates":
                    checked += 1
                    _, one, other = trouble
                    for pair, told in (((one, other), True), ((other, one), True), ((one, one), False),
                                       ((one, other, one), False), ((one,), False), ((one, 40), False)):
                        self.assertIs(accepts(expression, ("never", (path, ("gates",) + pair))), told)
        self.assertGreater(checked, 30)

    def test_nothing_is_accepted_where_it_can_be_sure(self):
        for expression in (ENDS, "a", "", ROW, ("many", ("or", ("a", "b")))):
            for path in ((), (0,), (1,), (0, 0)):
                for trouble in (("stuck",), ("gates", 0, 1), ("gates", 1, 0), ("gates", 0, 0)):
                    self.assertIs(accepts(expression, ("never", (path, trouble))), False)


class AcceptsOthers(unittest.TestCase):
    def test_other_forms(self):
        self.assertIs(accepts(ENDS, ("sure", OTHER_ENDS)), True)
        stuck = ((), ("stuck",))
        self.assertIs(accepts(PAIRS, ("never", stuck)), True)
        for word in ("never", "Sure", "sure ", "", "s", None, True, 0, b"sure", ("sure",), ["sure"], deep_row(1000)):
            self.assertIs(accepts(ENDS, (word, OTHER_ENDS)), False)
        for word in ("sure", "Never", "nev", "", None, False, 1, b"never", ("never",), ["never"], deep_list(1000)):
            self.assertIs(accepts(PAIRS, (word, stuck)), False)
        for value in (["sure", OTHER_ENDS], ("sure",), ("sure", OTHER_ENDS, None), ("sure", OTHER_ENDS, OTHER_ENDS),
                      ("sure", [OTHER_ENDS]), ("sure", (OTHER_ENDS,)), ("sure", None), ("sure", True), OTHER_ENDS,
                      (OTHER_ENDS, "sure"), "sure", {"sure": OTHER_ENDS}, ("sure", list(OTHER_ENDS)),
                      (("sure", OTHER_ENDS),)):
            self.assertIs(accepts(ENDS, value), False, value)
        for value in (["never", stuck], ("never",), ("never", stuck, None), ("never", [stuck]), ("never", list(stuck)),
                      ("never", ()), ("never", None), ("never", 0), stuck, ("never",) + stuck, "never",
                      ("never", ((), ["stuck"])), ("never", ((), "stuck")), ("never", ([], ("stuck",)))):
            self.assertIs(accepts(PAIRS, value), False, value)

    def test_strange_values(self):
        for expression in (ENDS, PAIRS, "", "a", BOTH):
            for at, value in enumerate(STRANGE + [deep_list(5000), deep_tuple(5000), deep_row(5000), ()]):
                with self.subTest(at=at):
                    self.assertIs(accepts(expression, value), False)
                    self.assertIs(accepts(expression, ("never", value)), False)
                    self.assertIs(accepts(expression, (value, expression)), False)
                    self.assertIs(accepts(expression, (value, ((), ("stuck",)))), False)
                    self.assertIs(accepts(expression, (value, value)), False)
                    told = isinstance(value, str) and is_long(value) and value == expression
                    self.assertIs(accepts(expression, ("sure", value)), told)

    def test_nothing_is_changed(self):
        value = ["sure", ["a"]]
        accepts("a", value)
        accepts("a", ("sure", value))
        accepts(PAIRS, ("never", value))
        self.assertEqual(value, ["sure", ["a"]])


class ShortestNever(unittest.TestCase):
    def test_of_expressions(self):
        other = 0
        for expression in SMALL + LARGER + NEVER + BOTHS:
            reason = told_shortest(told_system(expression))
            found = shortest_never(expression)
            self.assertEqual(found, None if reason is None else ("never", reason), expression)
            self.assertIs(found is None, can_be_sure(expression))
            if found is not None:
                self.assertIs(accepts(expression, found), True)
                other += found != certificate(expression)
        self.assertGreater(other, 0)

    def test_of_systems(self):
        # Few expressions have reasons by several paths, so here systems are put in instead.
        deep = {}
        for system in [random_stairs(random.Random(seed)) for seed in range(1200)]:
            reason = first_reason(system)
            if reason is not None and reason[0] != ():
                deep.setdefault(len(reason[0]), []).append(system)
        parts = [system for systems in deep.values() for system in systems[:4]]
        other = 0
        for system in [beside(one, two) for one, two in product(parts, repeat=2)] + SYSTEMS[::3]:
            reason = told_shortest(system)
            with mock.patch("nodoubt.certificates.system_of", lambda automaton: system):
                found = shortest_never("a")
            self.assertEqual(found, None if reason is None else ("never", reason), system)
            other += reason is not None and reason != first_reason(system)
        self.assertGreater(other, 50)

    def test_some(self):
        self.assertEqual(shortest_never(PAIRS), ("never", ((), ("stuck",))))
        self.assertIsNone(shortest_never(ENDS))
        self.assertIsNone(shortest_never(ROW))
        self.assertEqual(certificate(BOTH), ("never", ((1, 1), ("stuck",))))
        self.assertEqual(shortest_never(BOTH), ("never", ((3,), ("stuck",))))
        self.assertEqual(simple_paths(told_system(BOTH)), [(), (1,), (1, 1), (3,)])

    def test_no_reason_of_whatever_path_has_fewer_states(self):
        checked = 0
        for expression in NEVER[::5] + BOTHS:
            found = shortest_never(expression)
            if found is not None and found[1][0] != ():
                checked += 1
                system = told_system(expression)
                for many in range(min(len(found[1][0]), 2)):
                    for path in product(system[0], repeat=many):
                        pairs = product(system[0], repeat=2)
                        for trouble in [("stuck",)] + [("gates",) + pair for pair in pairs]:
                            self.assertIs(accepts(expression, ("never", (path, trouble))), False)
        self.assertGreater(checked, 5)


def beside(one, other):
    """A system that is made of two, the other one with greater states."""
    more = one[0][-1] + 1
    moves = tuple((start + more, letter, end + more) for start, letter, end in other[1])
    return tuple(tuple(row) for row in (
        one[0] + tuple(state + more for state in other[0]), one[1] + moves,
        one[2] + tuple(state + more for state in other[2])))


class EqualInWords(unittest.TestCase):
    def test_the_same_certificates(self):
        by_automaton = {}
        for expression in SMALL + LARGER:
            by_automaton.setdefault(automaton_of(expression), []).append(expression)
        groups = [group for group in by_automaton.values() if len(group) > 1]
        self.assertGreater(len(groups), 50)
        for group in groups:
            found = [certificate_or_none(each) for each in group]
            self.assertEqual(found, found[:1] * len(group), group[0])
            self.assertEqual([shortest_never(each) for each in group], [shortest_never(group[0])] * len(group))
            values = [("sure", each) for each in group[:8]] + [found[0], ("never", ((), ("stuck",)))]
            for value in values:
                answers = [accepts(each, value) for each in group[:8]]
                self.assertEqual(answers, answers[:1] * len(answers), (group[0], value))

    def test_simple_forms(self):
        for expression in LARGER:
            other = simple(expression)
            self.assertIs(are_equal(expression, other), True)
            self.assertIs(can_be_sure(other), can_be_sure(expression))
            self.assertEqual(certificate_or_none(other), certificate_or_none(expression))

    def test_finitely_many_words_can_be_sure(self):
        finite = 0
        for expression in SMALL + LARGER:
            if greatest_length(expression) is not None:
                finite += 1
                self.assertIs(can_be_sure(expression), True, expression)
                self.assertIsNone(shortest_never(expression))
                self.assertIsNotNone(count_made(expression))
        self.assertGreater(finite, 300)
        self.assertIs(can_be_sure(ROW), True)
        self.assertEqual(count_made(ROW), 223)

    def test_an_expression_without_a_doubt_is_one_for_itself(self):
        told = {True: 0, False: 0}
        for expression in SMALL + LARGER:
            sure = is_sure(expression)
            self.assertIs(accepts(expression, ("sure", expression)), sure, expression)
            self.assertTrue(can_be_sure(expression) or not sure)
            told[sure] += 1
        self.assertTrue(min(told.values()) > 300, told)

    def test_behind_words(self):
        numbers = random.Random(101)
        checked = 0
        for expression in SMALL[::4] + LARGER[::3]:
            if not can_be_sure(expression):
                continue
            for word in words_up_to(1) + [picked_word(expression, numbers)[:many] for many in (2, 5, 9)]:
                if state_behind(expression, word) is None:
                    continue
                try:
                    other = made_behind(expression, word)
                except TooLarge:
                    continue
                self.assertIsNotNone(other, (expression, word))
                if is_expression(other):
                    checked += 1
                    self.assertIs(can_be_sure(other), True)
                    self.assertIs(accepts(other, ("sure", other)), True)
        self.assertGreater(checked, 500)

    def test_behind_paths(self):
        checked = 0
        for expression in LARGER[::3] + [ENDS, OTHER_ENDS]:
            system = told_system(expression)
            if can_be_sure(expression):
                for path in simple_paths(system):
                    states, moves, ends = told_behind(system, path)
                    for begin in states:
                        # From this state on, numbered anew from 0.
                        order = [begin] + [state for state in states if state != begin]
                        number = {state: at for at, state in enumerate(order)}
                        there = merged_automaton([state in ends for state in order],
                                                 [(number[start], letter, number[end]) for start, letter, end in moves])
                        states_there = tuple(range(len(there[0])))
                        accepting = tuple(state for state in states_there if there[0][state])
                        # States from which no word is taken would not be in the automaton of an expression.
                        if accepting and is_live(there):
                            checked += 1
                            self.assertIs(is_smooth((states_there, there[1], accepting)), True, (expression, path))
        self.assertGreater(checked, 300)

    def test_two_without_a_doubt_whose_join_or_or_cannot_be(self):
        one, other = ("many", ("join", ("a", "b"))), ("maybe", "a")
        self.assertIs(is_sure(one) and is_sure(other), True)
        self.assertEqual(certificate(("join", (one, other))), ("never", ((), ("stuck",))))
        one, other = ("many", ("join", ("a", "b"))), ("join", ("a", ("many", ("join", ("b", "a")))))
        self.assertIs(is_sure(one) and is_sure(other), True)
        self.assertEqual(certificate(("or", (one, other))), ("never", ((), ("stuck",))))
        self.assertIs(can_be_sure(one) and can_be_sure(other), True)


def is_live(automaton):
    """Whether from each state some word is taken."""
    ends, moves = automaton
    live = {state for state, end in enumerate(ends) if end}
    for _ in ends:
        live |= {start for start, _, end in moves if end in live}
    return len(live) == len(ends)


class Wrong(unittest.TestCase):
    def test_bad_values(self):
        for function in (certificate, shortest_never, can_be_sure):
            assert_bad_values(self, function, ["expression"], {}, {"expression": NOT_SHORT})
        for value in (("sure", "a"), ("never", ((), ("stuck",))), None, deep_row(1000), ("sure", deep_tuple(1000))):
            assert_bad_values(self, lambda expression: accepts(expression, value),
                              ["expression"], {}, {"expression": NOT_SHORT})

    def test_too_many_states(self):
        values = [("sure", "a"), ("sure", HUGE), ("never", ((), ("stuck",))), None, deep_row(1000)]
        for expression in TOO_LARGE:
            functions = [certificate, shortest_never, can_be_sure]
            functions += [lambda each, value=value: accepts(each, value) for value in values]
            for function in functions:
                with self.assertRaises(TooLarge) as caught:
                    function(expression)
                self.assertEqual(caught.exception.what, "states")

    def test_too_many_places_for_certificate_alone(self):
        for expression in [ROW, LARGE] + LONG_MADE:
            with self.assertRaises(TooLarge) as caught:
                certificate(expression)
            self.assertEqual(caught.exception.what, "places")
            self.assertIs(can_be_sure(expression), True)
            self.assertIsNone(shortest_never(expression))
            self.assertIs(accepts(expression, ("sure", expression)), False)
            self.assertIs(accepts(expression, ("never", ((), ("stuck",)))), False)
