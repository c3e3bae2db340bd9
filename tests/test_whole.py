"""The whole program: the points that speak of several chapters, each through the modules of these."""

import random
import unittest
from itertools import combinations

from nodoubt.automata import automaton_of, first_words, is_automaton, state_behind
from nodoubt.certificates import accepts, can_be_sure, certificate, shortest_never
from nodoubt.choices import accepts_round, parts_conflicts, smallest_choice, told_round
from nodoubt.colors import accepts_colors, color_grounds, color_number, separates, told_coloring
from nodoubt.comparing import (
    accepts_equal, accepts_included, accepts_telling, are_equal, is_included, telling_word, told_relation,
)
from nodoubt.doubts import accepts_doubt, accepts_guide, conflicts, first_doubt, guide, is_sure, places_read
from nodoubt.errors import NotPossible, TooLarge
from nodoubt.expressions import is_expression, is_long, matches, places
from nodoubt.inward import accepts_reason, behind, first_reason, is_smooth, simple_paths
from nodoubt.journals import are_right, replayed
from nodoubt.judging import accepts_automaton, automaton_evidence
from nodoubt.listing import number_of, words_from
from nodoubt.making import count_made, made, made_behind
from nodoubt.markings import accepts_wrong, count_markings, first_marking, is_marking, wrong_evidence
from nodoubt.orbits import is_system, system_of
from nodoubt.reader import Reader
from nodoubt.reading import next_tokens, read_expression, read_long, read_word
from nodoubt.simple import greatest_length, simple, turned
from nodoubt.writing import expression_text, word_text
from tests.helper import larger_ones, run, told_automaton, words_about, words_up_to

TEXTS = """
. a .|. a? .* a*b(c|d)? (ab)*a? (ab)*|a (a|b)*a b*a(bb*a|a)* (a?a?a?)* ab|ac|b a|aa (ab|c)*d? ((ab)*a?c)*|d(ab)*a?
(a|b)*a(a|b) a?b?c?d? (a(b|c)*d)* aaaaaaaa a|a|a|a|a|a|a|a (a?b)*a? d(ab)*a? (aa)* a* a*a aa* (a|b)* (a*b*)* ((a|b)(c|d))*
(abc)*(ab?)? a(bc|bd) ab(c|d) (b|a)(c|ca) (a?a)* ((a?b)?c)? (a|ab)(c|bc) abcdabcd ((a*)*)*
""".split()

WHOLE = [read_expression(text) for text in TEXTS] + larger_ones(136, 250, 24, False) + larger_ones(
    137, 150, 24, False, ["a", "b", "a", ""])

SURE = [each for each in WHOLE if is_sure(each)]


def made_or_none(expression):
    """The made expression, or None if there is none that can be returned."""
    try:
        return made(expression)
    except TooLarge:
        return None


class Points(unittest.TestCase):
    def test_43_and_52_equal_automata_are_equal_words(self):
        numbers = random.Random(43)
        pairs = [tuple(numbers.sample(WHOLE, 2)) for _ in range(250)]
        pairs += [(each, simple(each)) for each in WHOLE[::2]] + [(each, ("or", (each, ""))) for each in WHOLE[::3]]
        told = {True: 0, False: 0}
        for one, other in pairs:
            if not is_expression(other) or not is_expression(one):
                continue
            equal = automaton_of(one) == automaton_of(other)
            told[equal] += 1
            self.assertIs(are_equal(one, other), equal, (one, other))
            self.assertIs(is_included(one, other) and is_included(other, one), equal)
            self.assertIs(told_automaton(one) == told_automaton(other), equal)
            word, relation = telling_word(one, other), told_relation(one, other)
            self.assertIs(word is None, equal)
            self.assertIs(accepts_equal(one, other, relation), equal)
            self.assertIs(accepts_included(one, other, relation), is_included(one, other))
            if equal:
                self.assertTrue(all(matches(one, each) is matches(other, each) for each in words_up_to(3)))
            else:
                self.assertIs(accepts_telling(one, other, word), True)
                self.assertTrue(len(word) > 24 or matches(one, word) is not matches(other, word))
        self.assertTrue(min(told.values()) > 100, told)

    def test_80_and_84_made_exactly_if_smooth(self):
        told = {True: 0, False: 0}
        by_automaton = {}
        for expression in WHOLE:
            automaton = automaton_of(expression)
            system = system_of(automaton)
            smooth = is_smooth(system)
            told[smooth] += 1
            other = made_or_none(expression)
            self.assertEqual(by_automaton.setdefault(automaton, other), other)
            self.assertTrue(smooth or not is_sure(expression))
            self.assertIs(count_made(expression) is not None, smooth)
            if not smooth:
                self.assertIsNone(other)
                self.assertIs(accepts_reason(system, first_reason(system)), True)
            elif other is not None:
                self.assertTrue(is_long(other) and is_sure(other) and accepts_guide(other, guide(other)))
                self.assertEqual(told_automaton(other), automaton)
                self.assertEqual(len(places(other)), count_made(expression))
        self.assertTrue(min(told.values()) > 10, told)

    def test_91_what_is_made_behind_words(self):
        numbers = random.Random(91)
        checked = 0
        for expression in WHOLE:
            by_state = {}
            for word in words_up_to(2) + words_about(expression, numbers)[:8]:
                state = state_behind(expression, word)
                try:
                    other = made_behind(expression, word)
                except TooLarge:
                    continue
                self.assertIs(other is None, state is None or not can_be_sure(expression), (expression, word))
                if other is not None:
                    checked += 1
                    self.assertIs(is_sure(other), True)
                    self.assertEqual(by_state.setdefault(state, other), other)
                    for more in words_up_to(2, "abc"):
                        if len(word + more) <= 24:
                            self.assertIs(matches(other, more), matches(expression, word + more))
            self.assertEqual(len(set(by_state.values())), len(by_state))
        self.assertGreater(checked, 2000)

    def test_96_and_99_to_101_certificates(self):
        for expression in WHOLE:
            sure = can_be_sure(expression)
            self.assertIs(sure, is_smooth(system_of(automaton_of(expression))))
            self.assertIs(shortest_never(expression) is None, sure)
            self.assertIs(accepts(expression, ("sure", expression)), is_sure(expression))
            self.assertTrue(sure or greatest_length(expression) is None)
            try:
                value = certificate(expression)
            except TooLarge:
                self.assertIs(sure, True)
                continue
            self.assertEqual(value[0], "sure" if sure else "never")
            for other in (expression, simple(expression)):
                self.assertIs(accepts(other, value), True)
                self.assertEqual(certificate(other), value)
            if sure:
                self.assertEqual(value[1], made(expression))
                self.assertTrue(all(is_smooth(behind(system_of(automaton_of(expression)), path))
                                    for path in simple_paths(system_of(automaton_of(expression)))))
            else:
                self.assertIs(accepts(expression, shortest_never(expression)), True)
            # The certificate of another one is accepted exactly if the words are the same.
            for other in WHOLE[:45:4]:
                told = automaton_of(other) == automaton_of(expression) if sure else None
                if told is not None:
                    self.assertIs(accepts(other, value), told, (expression, other))

    def test_105_and_112_colors(self):
        for expression in WHOLE:
            number, pairs = color_number(expression), conflicts(expression)
            self.assertIs(number == 1, is_sure(expression))
            self.assertIs(first_doubt(expression) is None, number == 1)
            most = max([sum(place in pair for pair in pairs) for place in range(len(places(expression)))], default=0)
            self.assertLessEqual(number, most + 1)
            coloring = told_coloring(expression)
            self.assertIs(separates(expression, coloring), True)
            self.assertIs(accepts_colors(expression, number, color_grounds(expression)), True)
            choice, ring = smallest_choice(expression), told_round(expression)
            self.assertIs(choice is not None, number <= 2)
            self.assertIs(ring is not None, number > 2)
            self.assertTrue(parts_conflicts(expression, choice) if ring is None else accepts_round(expression, ring))
            # With colors for letters there is no conflict between places of different colors.
            letters = places(expression)
            self.assertTrue(all(letters[one] == letters[other] and coloring[one] != coloring[other] for one, other in pairs))

    def test_123_texts(self):
        for expression in WHOLE:
            for each in (expression, turned(expression), simple(expression), made_or_none(expression)):
                if each is not None:
                    text = expression_text(each)
                    self.assertEqual(read_long(text), each)
                    self.assertEqual(read_long(" ".join(" " + text)), each) if len(text) < 199 else None
                    self.assertIn("the end", next_tokens(text, "expression"))
                    if is_expression(each):
                        self.assertEqual(read_expression(text), each)
            for word in words_from(expression, 0, 5):
                self.assertEqual(read_word(word_text(word)), word)

    def test_130_readers(self):
        checked = 0
        for expression in SURE:
            for word in words_from(expression, 0, 20):
                if len(word) > 20:
                    continue
                reader = replayed(expression, tuple(("read", letter) for letter in word))
                checked += 1
                self.assertIs(reader.may_end(), True)
                self.assertEqual(reader.places(), first_marking(expression, word))
                self.assertEqual(reader.places(), places_read(expression, word))
                self.assertIs(is_marking(expression, word, reader.places()), True)
                self.assertEqual(count_markings(expression, word), 1)
                self.assertIs(are_right(expression, reader.records()), True)
                for (command, _, rest), many in zip(reader.records(), range(1, 30)):
                    self.assertEqual(command, ("read", word[many - 1]))
                    self.assertTrue(len(word[:many] + rest) > 24 or matches(expression, word[:many] + rest))
        self.assertGreater(checked, 500)
        for expression in WHOLE:
            if expression not in SURE:
                with self.assertRaises(NotPossible) as caught:
                    Reader(expression)
                self.assertEqual(caught.exception.why, "doubt")


class Evidence(unittest.TestCase):
    def test_what_is_told_comes_with_evidence(self):
        numbers = random.Random(1)
        for expression in WHOLE:
            automaton = automaton_of(expression)
            self.assertIs(is_automaton(automaton), True)
            self.assertIs(is_system(system_of(automaton)), True)
            self.assertIs(accepts_automaton(expression, automaton, automaton_evidence(expression)), True)
            doubt, told = first_doubt(expression), guide(expression)
            self.assertIs(accepts_doubt(expression, doubt), doubt is not None)
            self.assertIs(accepts_guide(expression, told), doubt is None)
            for word in words_about(expression, numbers)[:12]:
                right = matches(expression, word)
                self.assertIs(is_marking(expression, word, first_marking(expression, word)), right)
                self.assertIs(accepts_wrong(expression, word, wrong_evidence(expression, word)), not right)
                self.assertIs(number_of(expression, word) is not None, right)
                self.assertIs(run(automaton, word) != -1, state_behind(expression, word) is not None)

    def test_of_two_expressions_exactly_one_kind_is_accepted(self):
        for one, other in combinations(WHOLE[:24], 2):
            relation, word = told_relation(one, other), telling_word(one, other)
            self.assertIs(accepts_equal(one, other, relation), not accepts_telling(one, other, word))

    def test_first_words_lead_to_their_states(self):
        for expression in WHOLE:
            for state, word in enumerate(first_words(expression)):
                if len(word) <= 24:
                    self.assertEqual(state_behind(expression, word), state)
