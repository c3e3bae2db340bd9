"""Points 117 to 121, 123 and 124: reading the texts of expressions and words."""

import random
import unittest
from functools import lru_cache
from itertools import product
from time import process_time

from nodoubt.errors import BadValue, TextError
from nodoubt.expressions import is_expression, is_long, is_word
from nodoubt.reading import next_tokens, read_expression, read_long, read_word
from nodoubt.writing import expression_text
from tests.helper import (
    LETTERS, assert_bad_values, deep_list, deep_row, depth, larger_ones, leaf_letters, part_count, wrapped,
)
from tests.test_scanning import NO_TEXTS, NO_TOKENS, told_tokens

SIGNS = "()|?*."
NAMES = ["a letter"] + [f'"{sign}"' for sign in SIGNS] + ["the end"]
BOUNDS = (8, 6, 24)
LONG_BOUNDS = (40, 40, 200)


class Parser:
    """Reads tokens by the grammar of point 117, a function for each of its rows."""

    def __init__(self, characters):
        self.rest = list(characters)

    def peek(self):
        return self.rest[0] if self.rest else "end"

    def take(self, among):
        if self.peek() not in among:
            raise LookupError
        return self.rest.pop(0)

    def whole(self):
        found = self.either()
        if self.rest:
            raise LookupError
        return found

    def either(self):
        parts = [self.joined()]
        while self.peek() == "|":
            self.take("|")
            parts.append(self.joined())
        return self.row("or", parts)

    def joined(self):
        parts = [self.item()]
        while self.peek() in [*LETTERS, ".", "("]:
            parts.append(self.item())
        return self.row("join", parts)

    def item(self):
        first = self.take([*LETTERS, ".", "("])
        found = {".": ""}.get(first, first)
        if first == "(":
            found = self.either()
            self.take(")")
        while self.peek() in ("?", "*"):
            found = ("maybe" if self.take("?*") == "?" else "many", found)
        return found

    @staticmethod
    def row(word, parts):
        if len(parts) == 1:
            return parts[0]
        found = []
        for part in parts:
            found += part[1] if part[:1] == (word,) else [part]
        return word, tuple(found)


def parsed(characters):
    """The expression, or None if the characters do not follow the grammar."""
    try:
        return Parser(characters).whole()
    except LookupError:
        return None


def is_text_of_word(characters):
    return characters == "." or (characters != "" and set(characters) <= set(LETTERS))


@lru_cache(maxsize=None)
def follows(characters, kind):
    return is_text_of_word(characters) if kind == "word" else parsed(characters) is not None


@lru_cache(maxsize=None)
def is_beginning(characters, kind):
    """Whether some text of the grammar begins so: parentheses are closed, behind a letter where one is missing."""
    ends = [")" * many for many in range(characters.count("(") + 1)]
    return any(follows(characters + letter + end, kind) for letter in ("", "a") for end in ends)


def told_next(characters, kind):
    """What can come behind the characters, or None if they begin no text of the kind."""
    if not is_beginning(characters, kind):
        return None
    found = [name for name, sign in zip(NAMES, "a" + SIGNS) if is_beginning(characters + sign, kind)]
    return found + (["the end"] if follows(characters, kind) else [])


def told_listed(names):
    return " or ".join([", ".join(names[:-1])] * (len(names) > 1) + names[-1:])


def told_grammar_problem(tokens, kind):
    """The column and the words at the first token that cannot come, or None."""
    characters = "".join(token[1] for token in tokens)
    for at, (_, character, column) in enumerate(tokens[:-1]):
        if not is_beginning(characters[:at + 1], kind):
            return column, "expected " + told_listed(told_next(characters[:at], kind))
    if not follows(characters, kind):
        return tokens[-1][2], "expected " + told_listed(told_next(characters, kind))
    return None


def told_read(text, bounds):
    """The expression, or the column and the words of the problem."""
    tokens = told_tokens(text)
    if isinstance(tokens, tuple):
        return tokens
    problem = told_grammar_problem(tokens, "expression")
    if problem:
        return problem
    letters, deep, parts = bounds
    columns = [column for kind, _, column in tokens if kind == "letter"]
    if len(columns) > letters:
        return columns[letters], f"there are at most {letters} letters"
    expression = parsed("".join(token[1] for token in tokens))
    if part_count(expression) > parts:
        return len(text) + 1, f"there are at most {parts} parts"
    if depth(expression) > deep:
        return len(text) + 1, "the expression is too deep"
    return expression


def told_word(text):
    tokens = told_tokens(text)
    problem = tokens if isinstance(tokens, tuple) else told_grammar_problem(tokens, "word")
    if problem:
        return problem
    letters = [(character, column) for kind, character, column in tokens if kind == "letter"]
    if len(letters) > 24:
        return letters[24][1], "a word has at most 24 letters"
    return "".join(character for character, _ in letters)


def is_problem(value):
    return isinstance(value, tuple) and isinstance(value[0], int)


SOME_SIGNS = ("?", "*", "x", "A", "???", "*?*?*", "******")


def random_texts(seed, many, leaves):
    """Texts of expressions as the seed tells, often with something wrong."""
    numbers = random.Random(seed)
    found = []
    for expression in larger_ones(seed, many, 40, True, leaves):
        text = expression_text(expression)
        for _ in range(numbers.choice((0, 0, 1, 1, 2, 4))):
            at = numbers.randint(0, len(text))
            change = numbers.choice(("in", "in", "out", "blank", "around", "twice", "sign"))
            if change == "out":
                text = text[:at] + text[at + 1:]
            elif change == "around":
                other = numbers.randint(0, len(text))
                text = text[:min(at, other)] + "(" + text[min(at, other):max(at, other)] + ")" + text[max(at, other):]
            elif change == "twice":
                text = text[:at] + text[max(0, at - 3):]
            else:
                text = text[:at] + numbers.choice({"in": "abcd().|", "blank": " ", "sign": SOME_SIGNS}[change]) + text[at:]
        found.append(text[:120])
    return found


TEXTS = random_texts(117, 600, ("a", "b", "c", "d", "a", "b", "")) + random_texts(118, 300, ("", "", "", "a"))


class ReadExpressions(unittest.TestCase):
    def check(self, function, text, told):
        if is_problem(told):
            with self.assertRaises(TextError) as caught:
                function(text)
            self.assertEqual((caught.exception.column, caught.exception.words), told, text)
        else:
            self.assertEqual(function(text), told, text)

    def test_all_short_texts(self):
        for many in range(5):
            for text in product("ab()|?*.", repeat=many):
                text = "".join(text)
                told = told_read(text, BOUNDS)
                self.check(read_expression, text, told)
                self.check(read_long, text, told)

    def test_longer_texts(self):
        told = {"right": 0, "expected": 0, "begins": 0, "letters": 0, "parts": 0, "deep": 0}
        for text in TEXTS:
            for function, bounds in ((read_expression, BOUNDS), (read_long, LONG_BOUNDS)):
                expected = told_read(text, bounds)
                self.check(function, text, expected)
                words = expected[1] if is_problem(expected) else "right"
                for word in told:
                    told[word] += word in words
        self.assertTrue(min(told.values()) > 10, told)

    def test_forms(self):
        for text, told in (
            ("a", "a"), (".", ""), ("ab", ("join", ("a", "b"))), ("a|b", ("or", ("a", "b"))), ("..", ("join", ("", ""))),
            (".|.", ("or", ("", ""))), ("a?", ("maybe", "a")), ("a*", ("many", "a")), (".?", ("maybe", "")),
            (".*", ("many", "")), ("a?*", ("many", ("maybe", "a"))), ("a*?", ("maybe", ("many", "a"))),
            ("a??", ("maybe", ("maybe", "a"))), ("a***", ("many", ("many", ("many", "a")))),
            ("ab?", ("join", ("a", ("maybe", "b")))), ("(ab)?", ("maybe", ("join", ("a", "b")))),
            ("(ab)*?", ("maybe", ("many", ("join", ("a", "b"))))), ("a|b*", ("or", ("a", ("many", "b")))),
            ("(a|b)*", ("many", ("or", ("a", "b")))), ("(a)", "a"), ("((a))", "a"), ("(a)?", ("maybe", "a")),
            ("(a?)", ("maybe", "a")), ("(a?)?", ("maybe", ("maybe", "a"))), ("(.)", ""), ("((ab))", ("join", ("a", "b"))),
            ("(a|b)", ("or", ("a", "b"))), ("(ab)c", ("join", ("a", "b", "c"))), ("a(bc)", ("join", ("a", "b", "c"))),
            ("(ab)(cd)", ("join", ("a", "b", "c", "d"))), ("a(b(c(d)))", ("join", ("a", "b", "c", "d"))),
            ("(a|b)|c", ("or", ("a", "b", "c"))), ("a|(b|c)", ("or", ("a", "b", "c"))), ("(a|(b))|(c|d)", ("or", tuple("abcd"))),
            ("(a|b)c", ("join", (("or", ("a", "b")), "c"))), ("a|bc", ("or", ("a", ("join", ("b", "c"))))),
            ("(ab)|c", ("or", (("join", ("a", "b")), "c"))), ("a(b|c)d", ("join", ("a", ("or", ("b", "c")), "d"))),
            ("(a(b|c))d", ("join", ("a", ("or", ("b", "c")), "d"))), ("a.b", ("join", ("a", "", "b"))),
            ("(ab|c)|d", ("or", (("join", ("a", "b")), "c", "d"))), ("((ab)|c)d", ("join", (("or", (("join", ("a", "b")), "c")), "d"))),
            ("(ab)?(ab)", ("join", (("maybe", ("join", ("a", "b"))), "a", "b"))),
            ("((a|b)?|c)*", ("many", ("or", (("maybe", ("or", ("a", "b"))), "c")))),
            ("((a)b)c|.|(d|a)", ("or", (("join", ("a", "b", "c")), "", "d", "a"))),
            ("a*b(c|d)?", ("join", (("many", "a"), "b", ("maybe", ("or", ("c", "d")))))),
        ):
            self.assertEqual(read_expression(text), told, text)
            self.assertEqual(read_long(text), told)
            self.assertEqual(parsed(text), told)
            self.assertIs(is_expression(told), True)
            self.assertEqual(read_expression("(" + text + ")"), told)
            self.assertEqual(read_expression("  " + " ".join(text) + " "), told)

    def test_tuples_all_the_way_down(self):
        def check(value):
            self.assertIn(type(value), (str, tuple))
            if isinstance(value, tuple):
                self.assertIs(type(value[0]), str)
                for part in value[1] if value[0] in ("join", "or") else (value[1],):
                    check(part)
                if value[0] in ("join", "or"):
                    self.assertIs(type(value[1]), tuple)

        for text in TEXTS + ["a", ".", "(a|b)*c?"]:
            told = told_read(text, LONG_BOUNDS)
            if not is_problem(told):
                found = read_long(text)
                check(found)
                self.assertIs(is_long(found), True)
                self.assertIs(found is not read_long(text) or isinstance(found, str), True)

    def test_what_can_come(self):
        begin = 'expected a letter, "(" or "."'
        behind = 'expected a letter, "(", "|", "?", "*", "." or the end'
        within = 'expected a letter, "(", ")", "|", "?", "*" or "."'
        for text, column, words in (
            ("", 1, begin), ("   ", 4, begin), (" " * 400, 401, begin), ("a|", 3, begin), ("a| ", 4, begin), ("|", 1, begin),
            ("?", 1, begin), ("*a", 1, begin), (" ?", 2, begin), (")", 1, begin), ("()", 2, begin), ("(", 2, begin),
            ("(|a)", 2, begin), ("a|?", 3, begin), ("a|*b", 3, begin), ("a||b", 3, begin), ("(a|)", 4, begin),
            ("(?)", 2, begin), ("a)", 2, behind), ("a b )", 5, behind), (".)", 2, behind), ("a?)", 3, behind),
            ("(a))", 4, behind), ("(a)b)c", 5, behind), ("(a", 3, within), ("(a ", 4, within), ("((a)", 5, within),
            ("(a|b", 5, within), ("(.", 3, within), ("(a?", 4, within), ("(a*(b)", 7, within), ("((", 3, begin),
        ):
            for function in (read_expression, read_long):
                self.check(function, text, (column, words))
            self.assertEqual(told_read(text, BOUNDS), (column, words), text)

    def test_problems_of_tokens_come_first(self):
        for text, told in (("a)x", (3, "no token begins here")), (")|?A", (4, "no token begins here")),
                           ("a" * 30 + "e", (31, "no token begins here")), ("?" + "(" * 21, (22, "nested too deep")),
                           (")" + "(" * 21 + "x", (22, "nested too deep")), ("| \t", (3, "no token begins here"))):
            for function in (read_expression, read_long, read_word, lambda each: next_tokens(each, "word"),
                             lambda each: next_tokens(each, "expression")):
                self.check(function, text, told)
        for character in NO_TOKENS:
            self.check(read_expression, "a" + character, (2, "no token begins here"))

    def test_bounds_of_letters(self):
        for function, most in ((read_expression, 8), (read_long, 40)):
            words = f"there are at most {most} letters"
            self.assertEqual(function("a" * most), ("join", ("a",) * most))
            self.check(function, "a" * (most + 1), (most + 1, words))
            self.check(function, "a" * (most + 9), (most + 1, words))
            self.check(function, "a" * most + " | b  c", (most + 4, words))
            self.check(function, "a b " * (most // 2) + "(((c)))", (most * 2 + 4, words))
        self.check(read_expression, "abcd abcd a", (11, "there are at most 8 letters"))
        self.check(read_long, "abcd " * 10 + "a", (51, "there are at most 40 letters"))

    def test_bounds_of_parts(self):
        for function, most in ((read_expression, 24), (read_long, 200)):
            words = f"there are at most {most} parts"
            row = "." * (most - 1)
            self.assertEqual(part_count(function(row)), most)
            self.assertEqual(part_count(function("|".join(row))), most)
            self.check(function, row + ".", (most + 1, words))
            self.check(function, row + "|.", (most + 2, words))
            self.check(function, row + "?  ", (most + 3, words))
            self.check(function, "(" + row + ")*", (most + 3, words))
            self.assertEqual(part_count(function("((" + row + "))")), most)

    def test_bounds_of_depth(self):
        for function, most in ((read_expression, 6), (read_long, 40)):
            words = "the expression is too deep"
            self.assertEqual(function("a" + "?" * most), wrapped("maybe", most, "a"))
            self.assertEqual(function("." + "*" * most), wrapped("many", most, ""))
            self.check(function, "a" + "?" * (most + 1), (most + 3, words))
            self.check(function, "ab" + "*" * most, (most + 3, words))
            self.check(function, "." + "?*" * most + "  ", (2 * most + 4, words))
            self.check(function, "(a" + "?" * most + ")|b ", (most + 7, words))
        self.assertEqual(depth(read_long("(a|b(" * 9 + "c|d" + "))" * 9)), 19)
        self.check(read_expression, "(a|b(" * 3 + "c|d" + "))" * 3, (25, "the expression is too deep"))

    def test_the_first_of_several_bounds(self):
        letters, parts, deep = "there are at most 8 letters", "there are at most 24 parts", "the expression is too deep"
        many_parts, many_deep = "." * 30, "." + "?" * 9
        self.check(read_expression, many_parts + many_deep + "abcdabcda", (49, letters))
        self.check(read_expression, many_parts + many_deep, (41, parts))
        self.check(read_expression, "a" + "?" * 30, (32, parts))
        self.check(read_expression, many_deep + "abcdabcda", (19, letters))
        self.check(read_expression, many_deep, (11, deep))
        self.check(read_expression, "a" * 9 + ")", (10, told_read("a)", BOUNDS)[1]))
        self.check(read_expression, many_parts + many_deep + "|", (42, 'expected a letter, "(" or "."'))
        self.check(read_long, "." * 250 + "?" * 50 + "b" * 50, (341, "there are at most 40 letters"))
        self.check(read_long, "." * 250 + "?" * 50, (301, "there are at most 200 parts"))
        self.check(read_long, "a" + "?" * 399, (401, "there are at most 200 parts"))
        self.check(read_long, "a" + "*" * 100, (102, "the expression is too deep"))
        self.check(read_long, "a" * 400, (41, "there are at most 40 letters"))

    def test_the_longest_texts_are_read_quickly(self):
        begin = process_time()
        for text in ("(" * 20 + "a" + ")?" * 20 + "|." * 100, "a" + "?" * 399, "." * 400, "()" * 200, "." + "|." * 199,
                     "(." * 20 + ")" * 20 + "(.)" * 100, "(|" * 20, "." * 399 + "|", ("a" * 39 + "|") * 10):
            for function in (read_expression, read_long, read_word):
                try:
                    function(text)
                except TextError:
                    pass
            for kind in ("expression", "word"):
                try:
                    next_tokens(text, kind)
                except TextError:
                    pass
        self.assertLess(process_time() - begin, 2)

    def test_blanks_change_nothing_but_columns(self):
        numbers = random.Random(123)
        for text in TEXTS[:400]:
            wide = "".join(" " * numbers.randint(0, 2) + character for character in text)
            told = told_read(text, BOUNDS)
            if not is_problem(told):
                self.assertEqual(read_expression(wide), told)
                continue
            with self.assertRaises(TextError) as caught:
                read_expression(wide)
            self.assertEqual(caught.exception.words, told[1])
            # The column is that of the same character, or of the end.
            at = [column for column, character in enumerate(wide, 1) if character != " "]
            dense = [column for column, character in enumerate(text, 1) if character != " "]
            self.assertEqual(caught.exception.column, dict(zip(dense, at)).get(told[0], len(wide) + 1))


class ReadWords(unittest.TestCase):
    def test_all_short_texts(self):
        for many in range(5):
            for text in product("ab.(?|", repeat=many):
                text = "".join(text)
                self.check(text, told_word(text))

    def check(self, text, told):
        if is_problem(told):
            with self.assertRaises(TextError) as caught:
                read_word(text)
            self.assertEqual((caught.exception.column, caught.exception.words), told, text)
        else:
            self.assertEqual(read_word(text), told, text)
            self.assertIs(is_word(told), True)

    def test_longer_texts(self):
        numbers = random.Random(121)
        told = {True: 0, False: 0}
        for _ in range(600):
            letters = numbers.choice(("abcd", "abcd ", "abcdabcdabcdabcdabcdabcd.", "abcdabcdabcdabcdabcdabcd   ?x"))
            text = "".join(numbers.choice(letters) for _ in range(numbers.randint(0, 40)))
            self.check(text, told_word(text))
            told[is_problem(told_word(text))] += 1
        self.assertTrue(min(told.values()) > 100, told)

    def test_some(self):
        for text, told in ((".", ""), (" . ", ""), ("a", "a"), ("abba", "abba"), (" a b  b a ", "abba"), ("abcd" * 6, "abcd" * 6),
                           (" ".join("abcd" * 6) + "  ", "abcd" * 6)):
            self.assertEqual(read_word(text), told)

    def test_what_can_come(self):
        for text, column, words in (
            ("", 1, 'expected a letter or "."'), ("  ", 3, 'expected a letter or "."'), ("?", 1, 'expected a letter or "."'),
            ("(a)", 1, 'expected a letter or "."'), (")", 1, 'expected a letter or "."'), ("|a", 1, 'expected a letter or "."'),
            ("a.", 2, "expected a letter or the end"), ("a b .", 5, "expected a letter or the end"),
            ("ab*", 3, "expected a letter or the end"), ("a|b", 2, "expected a letter or the end"),
            ("a(", 2, "expected a letter or the end"), ("a)", 2, "expected a letter or the end"),
            (".a", 2, "expected the end"), ("..", 2, "expected the end"), (". ?", 3, "expected the end"),
            (".)", 2, "expected the end"), ("a" * 24 + ".", 25, "expected a letter or the end"),
            ("a" * 30 + ".", 31, "expected a letter or the end"),
        ):
            self.check(text, (column, words))
            self.assertEqual(told_word(text), (column, words), text)

    def test_bound(self):
        words = "a word has at most 24 letters"
        self.assertEqual(read_word("a" * 24), "a" * 24)
        for text, column in (("a" * 25, 25), ("a" * 400, 25), ("abcd " * 6 + "a b", 31), (" " * 300 + "a" * 25, 325)):
            self.check(text, (column, words))
        self.check("a" * 30 + "x", (31, "no token begins here"))


class NextTokens(unittest.TestCase):
    def check(self, text, kind):
        tokens = told_tokens(text)
        if isinstance(tokens, list):
            characters = "".join(token[1] for token in tokens)
            told = told_next(characters, kind)
            if told is not None:
                self.assertEqual(next_tokens(text, kind), told, (text, kind))
                return told
            # At the first token that cannot come; that the text ends there is no problem.
            problem = told_grammar_problem(tokens, kind)
        else:
            problem = tokens
        with self.assertRaises(TextError) as caught:
            next_tokens(text, kind)
        self.assertEqual((caught.exception.column, caught.exception.words), problem, (text, kind))
        return None

    def test_all_short_texts(self):
        for many in range(5):
            for text in product("a()|?*. ", repeat=many):
                self.check("".join(text), "expression")
                self.check("".join(text), "word")

    def test_every_beginning(self):
        told = set()
        for text in TEXTS[::9] + ["(a|b)*c?.", "abba", ".", "a b", "a.x"]:
            for many in range(len(text) + 1):
                for kind in ("expression", "word"):
                    told.add(tuple(self.check(text[:many], kind) or ()))
        self.assertEqual(len(told), 7)

    def test_some(self):
        begin = ["a letter", '"("', '"."']
        behind = ["a letter", '"("', '"|"', '"?"', '"*"', '"."', "the end"]
        within = ["a letter", '"("', '")"', '"|"', '"?"', '"*"', '"."']
        for text, told in (("", begin), ("  ", begin), ("(", begin), ("a|", begin), ("((", begin), ("a(", begin), ("(a|", begin),
                           ("a", behind), (".", behind), ("a?", behind), ("(a)", behind), ("a|b*", behind), ("a b ", behind),
                           ("(a", within), ("((a)", within), ("(.?", within), ("(a|b", within)):
            self.assertEqual(next_tokens(text, "expression"), told, text)
        for text, told in (("", ["a letter", '"."']), (" ", ["a letter", '"."']), ("a", ["a letter", "the end"]),
                           ("ab", ["a letter", "the end"]), (".", ["the end"]), (" . ", ["the end"]),
                           ("a" * 24, ["a letter", "the end"]), ("a" * 400, ["a letter", "the end"])):
            self.assertEqual(next_tokens(text, "word"), told, text)

    def test_within_twenty_others(self):
        self.assertEqual(next_tokens("(" * 20, "expression"), ["a letter", '"("', '"."'])
        self.assertIn('"("', next_tokens("(" * 20 + "a", "expression"))
        self.assertIn('")"', next_tokens("(" * 20 + "a", "expression"))

    def test_bounds_of_expressions_and_words_do_not_count(self):
        for text in ("a" * 400, "." * 400, "a" + "?" * 399, "abcd" * 3):
            self.assertEqual(next_tokens(text, "expression")[-1], "the end")

    def test_new_lists(self):
        for kind in ("expression", "word"):
            for text in ("", "a", "."):
                found = next_tokens(text, kind)
                self.assertIs(type(found), list)
                self.assertTrue(all(type(name) is str for name in found))
                before = list(found)
                found.append("x")
                found[0] = None
                self.assertEqual(next_tokens(text, kind), before)
                self.assertIsNot(next_tokens(text, kind), next_tokens(text, kind))


class Wrong(unittest.TestCase):
    def test_bad_values(self):
        kinds = [None, True, False, 0, "", "Expression", "words", "long", "expression ", b"word", ("word",), ["expression"],
                 "scan", deep_list(1000), deep_row(1000)]
        wrong = {"text": NO_TEXTS, "kind": kinds}
        for function in (read_expression, read_long, read_word):
            assert_bad_values(self, function, ["text"], {}, wrong)
        for kind in ("expression", "word"):
            assert_bad_values(self, next_tokens, ["text", "kind"], {"text": "a", "kind": kind}, wrong)
        # A wrong kind comes ahead of every problem of the text.
        for text in ("x", "(" * 21, "?", "a.b", ""):
            assert_bad_values(self, lambda kind: next_tokens(text, kind), ["kind"], {}, wrong)

    def test_text_errors_are_no_bad_values(self):
        for function in (read_expression, read_word, read_long):
            with self.assertRaises(TextError) as caught:
                function("x")
            self.assertNotIsInstance(caught.exception, BadValue)
