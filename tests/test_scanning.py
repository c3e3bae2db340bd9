"""Points 115, 116 and 124: the tokens of texts."""

import random
import unittest

from nodoubt.errors import BadValue, DoubtError, TextError
from nodoubt.scanning import scan
from tests.helper import assert_bad_values, deep_list, deep_row, deep_tuple

SIGNS = "()|?*."

NO_TEXTS = [
    None, True, False, 0, 1, (), [], ["a"], ("a",), {}, b"a", 1.5, "\n", "a\n", "\na", "a\nb", " \n ", "x\n", "(" * 30 + "\n",
    "a" * 401, " " * 401, "x" * 401, "(" * 401, "a" * 100000, "a" * 400 + "\n", deep_list(1000), deep_tuple(1000),
    deep_row(1000),
]

# No blanks, and no tokens either.
NO_TOKENS = list("ABCDefgxz0129,;:!/[]{}<>+-=_#$&@^~`'\"\\\t\r\x00\x0b\x0c\x1c\x7f\x85\xa0\u2028\u2029\u3000\uff41\u0430e")


def told_tokens(text):
    """The tokens, or the column and the words of the first problem."""
    found = []
    nested = 0
    for at in range(len(text)):
        if text[at] == " ":
            continue
        if text[at] not in "abcd" + SIGNS:
            return at + 1, "no token begins here"
        if text[at] == "(" and nested >= 20:
            return at + 1, "nested too deep"
        nested = nested + 1 if text[at] == "(" else max(0, nested - 1) if text[at] == ")" else nested
        found.append(("letter" if text[at] in "abcd" else "sign", text[at], at + 1))
    return found + [("end", "", len(text) + 1)]


class Scan(unittest.TestCase):
    def check(self, text):
        told = told_tokens(text)
        if isinstance(told, list):
            self.assertEqual(scan(text), told, text)
            return True
        with self.assertRaises(TextError) as caught:
            scan(text)
        self.assertEqual((caught.exception.column, caught.exception.words), told, text)
        self.assertIsInstance(caught.exception, DoubtError)
        return False

    def test_kinds_and_columns(self):
        self.assertEqual(scan("a(b|c)?*.d"), [
            ("letter", "a", 1), ("sign", "(", 2), ("letter", "b", 3), ("sign", "|", 4), ("letter", "c", 5), ("sign", ")", 6),
            ("sign", "?", 7), ("sign", "*", 8), ("sign", ".", 9), ("letter", "d", 10), ("end", "", 11),
        ])
        for letter in "abcd":
            self.assertEqual(scan(letter), [("letter", letter, 1), ("end", "", 2)])
        for sign in SIGNS:
            self.assertEqual(scan(sign), [("sign", sign, 1), ("end", "", 2)])

    def test_blanks(self):
        self.assertEqual(scan("  a  b"), [("letter", "a", 3), ("letter", "b", 6), ("end", "", 7)])
        self.assertEqual(scan("ab  "), [("letter", "a", 1), ("letter", "b", 2), ("end", "", 5)])
        self.assertEqual(scan(" ( "), [("sign", "(", 2), ("end", "", 4)])
        self.assertEqual(scan(" "), [("end", "", 2)])
        self.assertEqual(scan(" " * 400), [("end", "", 401)])

    def test_the_empty_text(self):
        self.assertEqual(scan(""), [("end", "", 1)])

    def test_length(self):
        self.assertEqual(scan("a" * 400)[-2:], [("letter", "a", 400), ("end", "", 401)])
        self.assertEqual(len(scan("()" * 200)), 401)
        with self.assertRaises(TextError) as caught:
            scan("a" * 399 + "x")
        self.assertEqual((caught.exception.column, caught.exception.words), (400, "no token begins here"))

    def test_no_token_begins_here(self):
        for character in NO_TOKENS:
            for before, behind in (("", ""), ("a", ""), ("", "b"), ("a ", " b"), ("(((", ")"), ("  ", "x"), ("))", "(")):
                with self.assertRaises(TextError) as caught:
                    scan(before + character + behind)
                self.assertEqual(caught.exception.column, len(before) + 1, character)
                self.assertEqual(caught.exception.words, "no token begins here")

    def test_nested(self):
        self.assertEqual(scan("(" * 20)[-1], ("end", "", 21))
        self.assertEqual(len(scan("(" * 20 + ")" * 20 + "(" * 20)), 61)
        self.assertEqual(len(scan(("(" * 20 + ")" * 20) * 10)), 401)
        self.assertEqual(len(scan("(" * 19 + "()" * 100)), 220)
        self.assertEqual(len(scan(")" * 50 + "(" * 20)), 71)
        self.assertEqual(len(scan("(" * 20 + ")))" + "(((")), 27)
        self.assertEqual(len(scan("()" * 10 + ")" * 10 + "(" * 20)), 51)
        for text, column in (("(" * 21, 21), ("(" * 30, 21), ("( " * 21, 41), ("(" * 20 + "a(", 22), ("(" * 20 + ")((", 23),
                             (")" * 50 + "(" * 21, 71), ("(" * 19 + "()" * 50 + "((", 121), ("()" * 30 + "(" * 21, 81),
                             ("(" * 20 + ")))" + "((((", 27), ("())))" + "(" * 21, 26), ("(|" * 20 + "*.?(", 44)):
            with self.assertRaises(TextError) as caught:
                scan(text)
            self.assertEqual((caught.exception.column, caught.exception.words), (column, "nested too deep"), text)

    def test_the_first_problem(self):
        for text, told in (("xy", (1, "no token begins here")), ("aXbY", (2, "no token begins here")),
                           ("(" * 21 + "x", (21, "nested too deep")), ("x" + "(" * 21, (1, "no token begins here")),
                           ("(" * 20 + "x(", (21, "no token begins here")), ("(" * 22, (21, "nested too deep"))):
            with self.assertRaises(TextError) as caught:
                scan(text)
            self.assertEqual((caught.exception.column, caught.exception.words), told)

    def test_whatever_the_grammar(self):
        for text in (")", "a)", "||", "?", "()", "*a", "..", "a.b", "(((", "|)(", "a|", "(a"):
            self.assertEqual(len(scan(text)), len(text) + 1)

    def test_many_texts(self):
        numbers = random.Random(116)
        told = {True: 0, False: 0}
        for _ in range(3000):
            letters = numbers.choice(("abcd()|?*. ", "((((()a ", "()", "abcd|()?*. e", "((((((((()x"))
            told[self.check("".join(numbers.choice(letters) for _ in range(numbers.randint(0, 60))))] += 1
        self.assertTrue(min(told.values()) > 500, told)

    def test_new_lists_of_tuples(self):
        for text in ("", "a (b)", "."):
            found = scan(text)
            self.assertIs(type(found), list)
            self.assertTrue(all(type(token) is tuple for token in found))
            self.assertTrue(all(list(map(type, token)) == [str, str, int] for token in found))
            before = list(found)
            found.append(("letter", "a", 9))
            found[0] = None
            self.assertEqual(scan(text), before)
            self.assertIsNot(scan(text), scan(text))


class Wrong(unittest.TestCase):
    def test_bad_values(self):
        assert_bad_values(self, scan, ["text"], {}, {"text": NO_TEXTS})

    def test_a_newline_is_the_line_feed_alone(self):
        for character in "\r\x0b\x0c\x1c\x1d\x1e\x85\u2028\u2029":
            with self.assertRaises(TextError):
                scan("a" + character)
        with self.assertRaises(BadValue):
            scan("a\r\n")
