"""Points 122 to 124: writing the texts of expressions and words, and reading them again."""

import random
import unittest
from itertools import product

from nodoubt.errors import BadValue, TextError
from nodoubt.expressions import is_expression
from nodoubt.reading import read_expression, read_long, read_word
from nodoubt.writing import expression_text, word_text
from tests.helper import (
    LARGEST, LONGEST, NOT_LONG, NO_WORDS, all_expressions, assert_bad_values, depth, larger_ones, words_up_to, wrapped,
)

SMALL = all_expressions(5, ["a", "b", ""])
LARGER = larger_ones(122, 500) + larger_ones(123, 400, 24, False)

# Each word directly within every other one.
FORMS = {"join": ("join", ("a", "b")), "or": ("or", ("c", "")), "maybe": ("maybe", "d"), "many": ("many", "a")}


def told_text(expression, around=None):
    """Point 122, with the word that the expression is directly in."""
    if isinstance(expression, str):
        return expression or "."
    word, inner = expression
    if word == "join":
        text = "".join(told_text(part, word) for part in inner)
        return "(" + text + ")" if around in ("maybe", "many") else text
    if word == "or":
        text = "|".join(told_text(part, word) for part in inner)
        return text if around is None else "(" + text + ")"
    return told_text(inner, word) + {"maybe": "?", "many": "*"}[word]


class Write(unittest.TestCase):
    def test_against_the_point(self):
        for expression in SMALL + LARGER:
            self.assertEqual(expression_text(expression), told_text(expression), expression)

    def test_each_word_in_every_other_one(self):
        for (outer, told), (inner, text) in product(
            {"maybe": "{}?", "many": "{}*", "join": "{}a", "or": "{}|a"}.items(),
            {"join": "ab", "or": "c|.", "maybe": "d?", "many": "a*"}.items(),
        ):
            if outer == inner and outer in ("join", "or"):
                continue
            part = FORMS[inner]
            expression = (outer, part) if outer in ("maybe", "many") else (outer, (part, "a"))
            around = inner == "or" or (inner == "join" and outer in ("maybe", "many"))
            told_one = told.format("(" + text + ")" if around else text)
            self.assertEqual(expression_text(expression), told_one)
            self.assertEqual(read_expression(told_one), expression)

    def test_some(self):
        for expression, text in (
            ("", "."), ("a", "a"), (("join", ("a", "b")), "ab"), (("or", ("a", "b")), "a|b"), (("join", ("", "")), ".."),
            (("or", ("", "a", "")), ".|a|."), (("maybe", ""), ".?"), (("many", ("maybe", "a")), "a?*"),
            (("maybe", ("many", "a")), "a*?"), (("maybe", ("maybe", ("many", "b"))), "b*??"),
            (("many", ("join", ("a", ("or", ("b", ""))))), "(a(b|.))*"), (("or", (("join", ("a", "b")), "c")), "ab|c"),
            (("join", (("or", ("a", "b")), ("or", ("c", "d")))), "(a|b)(c|d)"),
            (("maybe", ("or", (("join", ("a", "b")), ("maybe", "c")))), "(ab|c?)?"),
            (("join", (("many", ("join", ("a", "b"))), "c")), "(ab)*c"),
            (("or", (("many", ("or", ("a", "b"))), ("join", (("or", ("c", "d")), "a")))), "(a|b)*|(c|d)a"),
        ):
            self.assertEqual(expression_text(expression), text)
            self.assertEqual(read_expression(text), expression)

    def test_words(self):
        self.assertEqual(word_text(""), ".")
        for word in words_up_to(3) + ["abcd" * 6]:
            self.assertEqual(word_text(word), word or ".")
            self.assertEqual(read_word(word_text(word)), word)
            self.assertEqual(word_text(read_word(" " + " ".join(word or "."))), word or ".")

    def test_kinds(self):
        for expression in ("", "a", FORMS["or"]):
            self.assertIs(type(expression_text(expression)), str)
        self.assertIs(type(word_text("ab")), str)


class Again(unittest.TestCase):
    def test_reading_what_was_written(self):
        short = 0
        for expression in SMALL + LARGER + LONGEST:
            text = expression_text(expression)
            self.assertNotIn(" ", text)
            if len(text) > 400 or nested(text) > 20:
                continue
            self.assertEqual(read_long(text), expression)
            self.assertEqual(expression_text(read_long(text)), text)
            if is_expression(expression):
                short += 1
                self.assertEqual(read_expression(text), expression)
        self.assertGreater(short, 500)

    def test_with_blanks_put_in(self):
        numbers = random.Random(124)
        for expression in SMALL[::5] + LARGER:
            text = expression_text(expression)
            wide = " " * numbers.randint(0, 2) + "".join(one + " " * numbers.choice((0, 0, 1)) for one in text)
            if len(wide) <= 400 and nested(wide) <= 20:
                self.assertEqual(read_long(wide), expression)

    def test_texts_that_cannot_be_read_are_written(self):
        inside = "a"
        for many in range(1, 21):
            inside = ("maybe", ("join", (inside, "b")))
            text = expression_text(inside)
            self.assertEqual(text, "(" * many + "ab)?" + "b)?" * (many - 1))
            self.assertEqual(read_long(text), inside)
        # The parentheses of an "or" and of a "join" around it, each within the others.
        deep = "a"
        for _ in range(13):
            deep = ("many", ("join", (("or", (deep, "b")), "c")))
        text = expression_text(deep)
        self.assertEqual((depth(deep), nested(text)), (39, 26))
        self.assertEqual(text, told_text(deep))
        with self.assertRaises(TextError) as caught:
            read_long(text)
        self.assertEqual((caught.exception.column, caught.exception.words), (21, "nested too deep"))

    def test_the_longest_texts(self):
        # With 200 parts no text has more characters than this one: two for each leaf, but one for each other part.
        longest = ("many", ("or", ("a",) * 40 + ("",) * 158))
        rows = [("join", (("or", ("", "")),) * 66), ("or", ("",) * 199), ("maybe", ("join", ("",) * 198)), LARGEST,
                ("join", (("many", ("or", ("", "", ""))),) * 39 + ("a",) * 4)]
        for expression in rows + [longest]:
            text = expression_text(expression)
            self.assertEqual(text, told_text(expression))
            self.assertLessEqual(len(text), 398)
            self.assertEqual(read_long(text), expression)
        text = expression_text(longest)
        self.assertEqual(text, "(" + "|".join("a" * 40 + "." * 158) + ")*")
        self.assertEqual(len(text), 398)
        self.assertEqual(read_long(text + "  "), longest)
        with self.assertRaises(BadValue) as caught:
            read_long(text + "   ")
        self.assertEqual(caught.exception.name, "text")


def nested(text):
    """How many parentheses are open at once at most."""
    deepest = now = 0
    for character in text:
        now += (character == "(") - (character == ")")
        deepest = max(deepest, now)
    return deepest


class Wrong(unittest.TestCase):
    def test_bad_values(self):
        assert_bad_values(self, expression_text, ["expression"], {}, {"expression": NOT_LONG})
        assert_bad_values(self, word_text, ["word"], {}, {"word": NO_WORDS})

    def test_long_ones_are_written(self):
        for expression in LONGEST:
            self.assertEqual(expression_text(expression), told_text(expression))
