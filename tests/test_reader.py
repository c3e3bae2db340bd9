"""Points 126 to 131, 133 to 135: readers."""

import random
import unittest
from itertools import product

from nodoubt.doubts import is_sure, places_read
from nodoubt.errors import BadValue, NotPossible, TooLarge
from nodoubt.expressions import matches
from nodoubt.journals import are_right, replayed
from nodoubt.markings import count_markings, first_marking
from nodoubt.reader import Reader
from tests.helper import (
    LETTERS, NOT_SHORT, all_expressions, all_markings, assert_bad_values, deep_list, deep_row, deep_tuple, larger_ones,
    leaf_letters, picked_word, right_words, run, told_automaton, word_of, words_up_to,
)

CLEAR = ("join", (("many", "a"), "b", ("or", ("c", "d"))))
EVEN = ("many", ("join", ("a", "b")))

SMALL = [each for each in all_expressions(4, ["a", "b", ""]) + all_expressions(5, ["a", "b"])[::2] if is_sure(each)]
LARGER = [each for each in larger_ones(126, 900, 24, False) if is_sure(each)]
SURE = SMALL + LARGER + [CLEAR, EVEN, "", "d", ("many", ("or", ("a", "b", "c", "d"))), ("or", ("", ""))]

DOUBTFUL = [("or", ("a", "a")), ("join", (("many", "a"), "a")), ("many", ("join", (("maybe", "a"), "a"))),
            ("or", (("many", ("join", ("a", "b"))), "a")), ("or", ("a",) * 8)]

NO_COMMANDS = [
    None, True, False, 0, 1, "", "a", "read", "back", (), ("read",), ("back", "a"), ("back", None), ("back", ()), ("read", ""),
    ("read", "e"), ("read", "A"), ("read", "ab"), ("read", None), ("read", True), ("read", 0), ("read", ("a",)), ("read", ["a"]),
    ("read", "a", "b"), ("read", "a", None), ["read", "a"], ["back"], ("Read", "a"), ("Back",), ("", "a"), ("", ), (None, "a"),
    ("a", "read"), ("undo",), (("back",),), (("read", "a"),), ("read", b"a"), (b"back",), (True,), (0, "a"), ("reada",),
    {"read": "a"}, ("a",), ("read", " "), ("read", "a "), deep_list(1000), deep_tuple(1000), deep_row(1000),
    ("read", deep_row(1000)), (deep_row(1000), "a"), (deep_row(1000),), ("read",) * 2, ("back",) * 2,
]


def reader_behind(expression, word):
    reader = Reader(expression)
    for letter in word:
        reader.act(("read", letter))
    return reader


class Told:
    """What a reader tells of an expression, by its markings with at most so many letters."""

    def __init__(self, expression, most):
        self.letters = leaf_letters(expression)
        self.right = {word_of(expression, marking): marking for marking in all_markings(expression, most)}
        self.begun = {word[:many] for word in self.right for many in range(len(word) + 1)}

    def live(self, word):
        return word in self.begun

    def places(self, word):
        """The places of the word, in every marking that begins with them."""
        found = {marking[:len(word)] for other, marking in self.right.items() if other.startswith(word)}
        assert len(found) == 1
        return found.pop()

    def may_follow(self, word):
        return "".join(letter for letter in LETTERS if self.live(word + letter))

    def first_rest(self, word):
        rests = [other[len(word):] for other in self.right if other.startswith(word)]
        return min(rests, key=lambda rest: (len(rest), rest))


class Reading(unittest.TestCase):
    def check(self, reader, told, word):
        self.assertEqual(reader.word(), word)
        self.assertEqual(reader.places(), told.places(word))
        self.assertEqual(reader.may_follow(), told.may_follow(word), word)
        self.assertIs(reader.may_end(), word in told.right)
        self.assertEqual(reader.first_rest(), told.first_rest(word), word)
        self.assertLessEqual(len(reader.first_rest()), len(told.letters) - (word != "") if told.letters else 0)

    def test_all_short_words(self):
        for expression in SMALL + [CLEAR, EVEN]:
            # Behind three letters, and a fourth one, a rest has fewer letters than there are places.
            told = Told(expression, 4 + len(leaf_letters(expression)))
            for word in words_up_to(3, "abc"):
                if not told.live(word):
                    continue
                reader = reader_behind(expression, word)
                self.check(reader, told, word)
                self.assertEqual(reader.journal(), tuple(("read", letter) for letter in word))
                for letter in LETTERS:
                    if letter not in told.may_follow(word):
                        with self.assertRaises(NotPossible) as caught:
                            reader.act(("read", letter))
                        self.assertEqual(caught.exception.why, "letter")
                self.check(reader, told, word)

    def test_longer_words(self):
        numbers = random.Random(127)
        checked = 0
        for expression in LARGER + SURE[-6:]:
            reader = Reader(expression)
            for letter in picked_word(expression, numbers)[:20]:
                before = reader.word()
                self.assertIn(letter, reader.may_follow())
                self.assertEqual(reader.act(("read", letter)), len(before) + 1)
                self.assertEqual(reader.word(), before + letter)
                self.assertEqual(reader.places()[:-1], first_places_of(expression, before))
                self.assertIs(reader.may_end(), matches(expression, reader.word()))
                rest = reader.first_rest()
                self.assertIs(matches(expression, (reader.word() + rest)[:24]), len(reader.word() + rest) <= 24)
                self.assertLessEqual(len(rest), len(leaf_letters(expression)) - 1)
                self.assertEqual(rest, told_first_rest(expression, reader.word()))
                checked += 1
        self.assertGreater(checked, 300)

    def test_right_words(self):
        checked = 0
        for expression in SURE:
            for word in sorted(right_words(expression, 5))[:30]:
                checked += 1
                reader = reader_behind(expression, word)
                self.assertIs(reader.may_end(), True)
                self.assertEqual(reader.first_rest(), "")
                self.assertEqual(reader.places(), first_marking(expression, word))
                self.assertEqual(count_markings(expression, word), 1)
                self.assertEqual(reader.places(), places_read(expression, word))
        self.assertGreater(checked, 1000)

    def test_every_rest_can_be_read(self):
        for expression in SURE:
            told = sorted(right_words(expression, 5))[:12]
            for word in told:
                for many in range(len(word) + 1):
                    reader = reader_behind(expression, word[:many])
                    for letter in word[many:]:
                        reader.act(("read", letter))
                    self.assertIs(reader.may_end(), True)
                    reader = reader_behind(expression, word[:many])
                    for letter in reader.first_rest():
                        self.assertIs(reader.may_end(), False)
                        reader.act(("read", letter))
                    self.assertIs(reader.may_end(), True)

    def test_without_places(self):
        for expression in ("", ("or", ("", "")), ("many", ("maybe", "")), ("join", ("", "", ""))):
            reader = Reader(expression)
            self.assertEqual((reader.word(), reader.places(), reader.journal(), reader.records()), ("", (), (), ()))
            self.assertEqual((reader.may_follow(), reader.may_end(), reader.first_rest()), ("", True, ""))
            for letter in LETTERS:
                with self.assertRaises(NotPossible) as caught:
                    reader.act(("read", letter))
                self.assertEqual(caught.exception.why, "letter")
            self.assertIsNone(reader.undo())

    def test_first_rests(self):
        for expression, word, rest in (
            (CLEAR, "", "bc"), (CLEAR, "a", "bc"), (CLEAR, "aab", "c"), (CLEAR, "bd", ""), (EVEN, "", ""), (EVEN, "a", "b"),
            # Few letters count ahead of early ones, and then the first letter that differs.
            (("or", (("join", ("a", "a")), "d")), "", "d"), (("or", (("join", ("b", "a")), ("join", ("a", "d")))), "", "ad"),
            (("join", ("a", ("or", (("join", ("c", "b")), ("join", ("b", "d")), "d")))), "a", "d"),
            (("join", (("or", ("d", "c", "b")), ("or", ("c", "b")), "a")), "", "bba"),
            (("join", (("many", ("or", ("a", "b", "c"))), "d")), "", "d"),
            (("join", (("maybe", "a"), "b", ("maybe", "a"), "d")), "", "bd"),
            (("join", ("a",) * 8), "", "a" * 8), (("join", ("a",) * 8), "a", "a" * 7), (("many", ("join", ("d",) * 8)), "d", "d" * 7),
            (("or", (("join", ("a", "a", "a", "b")), ("join", ("b", "d")), ("join", ("c", "a")))), "", "bd"),
            (("or", (("join", ("a", "a", "a")), ("join", ("b", "d", ("or", ("b", "a", "c")))))), "b", "da"),
        ):
            self.assertEqual(reader_behind(expression, word).first_rest(), rest, expression)

    def test_kinds(self):
        reader = reader_behind(CLEAR, "aab")
        for value, kind in ((reader.word(), str), (reader.places(), tuple), (reader.journal(), tuple), (reader.may_follow(), str),
                            (reader.may_end(), bool), (reader.first_rest(), str), (reader.records(), tuple)):
            self.assertIs(type(value), kind)
        self.assertIs(type(Reader("").may_end()), bool)
        self.assertIs(type(reader.act(("back",))), int)
        self.assertIs(type(reader.undo()), tuple)
        self.assertEqual(Reader(("or", ("d", "b", "c", "a"))).may_follow(), "abcd")


def first_places_of(expression, word):
    """The places of a word that begins a right one, by a marking of what it becomes with a rest."""
    rest = told_first_rest(expression, word)
    return first_marking(expression, word + rest)[:len(word)] if len(word + rest) <= 24 else places_read(expression, word)


def told_first_rest(expression, word):
    """The first rest, by trying all words of more and more letters that can still be gone on with."""
    latest = [""]
    while True:
        found = [rest for rest in latest if len(word + rest) <= 24 and matches(expression, word + rest)]
        if found:
            return min(found)
        read = {rest: len(places_read(expression, (word + rest)[:24])) for rest in latest}
        latest = [rest + letter for rest in latest for letter in LETTERS if read[rest] == len(word + rest)]


class Commands(unittest.TestCase):
    def state(self, reader):
        return (reader.word(), reader.places(), reader.journal(), reader.may_follow(), reader.may_end(), reader.first_rest(),
                reader.records())

    def refused(self, reader, command, error, attribute, told):
        before = self.state(reader)
        with self.assertRaises(error) as caught:
            reader.act(command)
        self.assertEqual(getattr(caught.exception, attribute), told)
        self.assertEqual(self.state(reader), before)

    def test_many_commands(self):
        numbers = random.Random(128)
        told = {"read": 0, "back": 0, "letter": 0, "begin": 0, "undo": 0, "empty": 0, "full": 0}
        for expression in SURE:
            automaton = told_automaton(expression)
            reader, words, journal = Reader(expression), [""], []
            for _ in range(70):
                word = words[-1]
                command = numbers.choice([("back",), ("back",), None] + [("read", letter) for letter in "abcdab"])
                if command is None and numbers.random() < 0.6:
                    continue
                if command is None:
                    told["undo" if journal else "empty"] += 1
                    self.assertEqual(reader.undo(), journal.pop() if journal else None)
                    words = words[:-1] if len(words) > 1 else words
                elif len(word) > 4 and command[0] == "read":
                    continue
                elif command == ("back",) and word == "":
                    told["begin"] += 1
                    self.refused(reader, command, NotPossible, "why", "begin")
                elif command[0] == "read" and run(automaton, word + command[1]) == -1:
                    told["letter"] += 1
                    self.refused(reader, command, NotPossible, "why", "letter")
                elif len(journal) == 20:
                    told["full"] += 1
                    self.refused(reader, command, TooLarge, "what", "commands")
                else:
                    told[command[0]] += 1
                    journal.append(command)
                    words.append(word[:-1] if command == ("back",) else word + command[1])
                    self.assertEqual(reader.act(command), len(journal))
                self.assertEqual((reader.word(), reader.journal()), (words[-1], tuple(journal)))
                self.assertEqual(self.state(reader)[3:6], self.state(reader_behind(expression, words[-1]))[3:6])
        self.assertTrue(min(told.values()) > 20, told)

    def test_going_back(self):
        reader = Reader(CLEAR)
        self.refused(reader, ("back",), NotPossible, "why", "begin")
        self.assertEqual(reader.act(("read", "a")), 1)
        self.assertEqual(reader.act(("back",)), 2)
        self.assertEqual((reader.word(), reader.places()), ("", ()))
        self.refused(reader, ("back",), NotPossible, "why", "begin")
        self.assertEqual(reader.act(("read", "b")), 3)
        self.assertEqual(reader.act(("read", "c")), 4)
        self.assertEqual(reader.act(("back",)), 5)
        self.assertEqual((reader.word(), reader.places(), reader.may_follow()), ("b", (1,), "cd"))
        self.assertEqual(reader.act(("read", "d")), 6)
        self.assertEqual((reader.word(), reader.places()), ("bd", (1, 3)))
        self.assertEqual(reader.journal(), (("read", "a"), ("back",), ("read", "b"), ("read", "c"), ("back",), ("read", "d")))

    def test_undo(self):
        reader = Reader(CLEAR)
        self.assertIsNone(reader.undo())
        states = [self.state(reader)]
        commands = [("read", "a"), ("read", "b"), ("back",), ("read", "a"), ("back",), ("back",), ("read", "b"), ("read", "d"),
                    ("back",), ("read", "c")]
        for command in commands:
            reader.act(command)
            states.append(self.state(reader))
        self.assertEqual(reader.word(), "bc")
        while commands:
            self.assertEqual(self.state(reader), states.pop())
            self.assertEqual(reader.undo(), commands.pop())
        self.assertEqual(self.state(reader), states.pop())
        self.assertIsNone(reader.undo())
        self.assertIsNone(reader.undo())
        self.assertEqual(reader.act(("read", "b")), 1)

    def test_undo_of_going_back_brings_back_the_letter(self):
        reader = reader_behind(CLEAR, "aabd")
        reader.act(("back",))
        self.assertEqual(reader.undo(), ("back",))
        self.assertEqual((reader.word(), reader.places()), ("aabd", (0, 0, 1, 3)))
        self.assertEqual(reader.undo(), ("read", "d"))
        self.assertEqual((reader.word(), reader.journal()), ("aab", (("read", "a"), ("read", "a"), ("read", "b"))))

    def test_the_twenty_first_command(self):
        reader = reader_behind(("many", "a"), "a" * 19)
        self.assertEqual(reader.act(("read", "a")), 20)
        self.refused(reader, ("read", "a"), TooLarge, "what", "commands")
        self.refused(reader, ("back",), TooLarge, "what", "commands")
        # What is not possible is told first, and what is no command ahead of that.
        self.refused(reader, ("read", "b"), NotPossible, "why", "letter")
        self.refused(reader, ("read", "e"), BadValue, "name", "command")
        self.assertEqual(reader.undo(), ("read", "a"))
        self.assertEqual(reader.act(("back",)), 20)
        self.assertEqual(reader.word(), "a" * 18)
        self.refused(reader, ("read", "a"), TooLarge, "what", "commands")
        reader = Reader(("many", "a"))
        for at in range(10):
            self.assertEqual(reader.act(("read", "a")), 2 * at + 1)
            self.assertEqual(reader.act(("back",)), 2 * at + 2)
        self.refused(reader, ("back",), NotPossible, "why", "begin")
        self.refused(reader, ("read", "a"), TooLarge, "what", "commands")

    def test_no_commands(self):
        for word in ("", "a", "aab", "bd"):
            reader = reader_behind(CLEAR, word)
            for at, command in enumerate(NO_COMMANDS):
                with self.subTest(at=at):
                    self.refused(reader, command, BadValue, "name", "command")

    def test_what_is_told_depends_on_what_was_read_alone(self):
        for expression in SURE[::3]:
            for word in sorted(right_words(expression, 4))[:6]:
                plain = reader_behind(expression, word)
                other = Reader(expression)
                for letter in word:
                    for command in (("read", letter), ("back",), ("read", letter)):
                        other.act(command)
                self.assertEqual(self.state(other)[:2], self.state(plain)[:2])
                self.assertEqual(self.state(other)[3:6], self.state(plain)[3:6])

    def test_readers_are_apart(self):
        one, other = Reader(CLEAR), Reader(CLEAR)
        one.act(("read", "a"))
        self.assertEqual((other.word(), other.journal()), ("", ()))
        other.act(("read", "b"))
        self.assertEqual((one.word(), one.journal()), ("a", (("read", "a"),)))


class Records(unittest.TestCase):
    def test_of_readers(self):
        numbers = random.Random(133)
        for expression in SURE:
            reader = Reader(expression)
            told = []
            for _ in range(20):
                letters = [("read", letter) for letter in reader.may_follow()]
                command = numbers.choice(letters + [("back",)] * (reader.word() != "" and numbers.random() < 0.7) or [None])
                if command is None or len(reader.word()) > 9:
                    break
                reader.act(command)
                place = reader.places()[-1] if reader.word() else None
                told.append((command, place, reader.first_rest()))
                self.assertEqual(reader.records(), tuple(told))
                self.assertIs(type(reader.records()[-1]), tuple)
            self.assertIs(are_right(expression, reader.records()), True)
            while reader.undo() is not None:
                told.pop()
                self.assertEqual(reader.records(), tuple(told))

    def test_some(self):
        reader = reader_behind(CLEAR, "ab")
        reader.act(("back",))
        reader.act(("back",))
        self.assertEqual(reader.records(), (
            (("read", "a"), 0, "bc"), (("read", "b"), 1, "c"), (("back",), 0, "bc"), (("back",), None, "bc")))
        self.assertEqual(Reader(CLEAR).records(), ())


class Twins(unittest.TestCase):
    def state(self, reader):
        return reader.word(), reader.places(), reader.journal(), reader.records()

    def test_twins(self):
        numbers = random.Random(134)
        for expression in SURE[::2]:
            word = picked_word(expression, numbers)[:8]
            reader = reader_behind(expression, word)
            if word:
                reader.act(("back",))
            other = reader.twin()
            self.assertIs(type(other), Reader)
            self.assertIsNot(other, reader)
            before = self.state(reader)
            self.assertEqual(self.state(other), before)
            while other.undo() is not None:
                self.assertEqual(self.state(reader), before)
            self.assertEqual(self.state(other), self.state(Reader(expression)))
            other = reader.twin()
            while reader.undo() is not None:
                self.assertEqual(self.state(other), before)
            for letter in reader.may_follow():
                reader.act(("read", letter))
                break
            self.assertEqual(self.state(other), before)

    def test_a_twin_of_a_full_journal(self):
        reader = reader_behind(("many", "a"), "a" * 20)
        other = reader.twin()
        with self.assertRaises(TooLarge):
            other.act(("read", "a"))
        other.undo()
        other.act(("back",))
        self.assertEqual((other.word(), reader.word()), ("a" * 18, "a" * 20))
        self.assertEqual(other.twin().journal(), other.journal())

    def test_what_was_returned_is_not_changed(self):
        reader = reader_behind(CLEAR, "a")
        journal, places, records = reader.journal(), reader.places(), reader.records()
        reader.act(("read", "b"))
        self.assertEqual((journal, places, records), ((("read", "a"),), (0,), ((("read", "a"), 0, "bc"),)))
        reader.undo()
        reader.undo()
        self.assertEqual((journal, places), ((("read", "a"),), (0,)))


class Wrong(unittest.TestCase):
    def test_bad_values(self):
        assert_bad_values(self, Reader, ["expression"], {}, {"expression": NOT_SHORT})

    def test_doubts(self):
        for expression in DOUBTFUL + [each for each in all_expressions(4, ["a", ""]) if not is_sure(each)]:
            with self.assertRaises(NotPossible) as caught:
                Reader(expression)
            self.assertEqual(caught.exception.why, "doubt")
            with self.assertRaises(NotPossible) as caught:
                replayed(expression, ())
            self.assertEqual(caught.exception.why, "doubt")

    def test_every_expression_without_a_doubt_is_let(self):
        for expression in SURE:
            self.assertEqual(Reader(expression).word(), "")

    def test_methods_stand_in_the_class(self):
        for name in ("act", "undo", "word", "places", "journal", "may_follow", "may_end", "first_rest", "records", "twin"):
            self.assertIn(name, vars(Reader))

    def test_all_letters_at_once(self):
        for first, second in product(LETTERS, repeat=2):
            reader = Reader(("many", ("or", ("a", "b", "c", "d"))))
            reader.act(("read", first))
            reader.act(("read", second))
            self.assertEqual(reader.places(), (LETTERS.index(first), LETTERS.index(second)))
