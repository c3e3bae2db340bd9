"""Points 129, 132, 133 and 135: readers that are replayed, and the judge of records."""

import random
import unittest
from itertools import product

from nodoubt.errors import BadValue, NotPossible
from nodoubt.expressions import matches
from nodoubt.journals import are_right, replayed
from nodoubt.reader import Reader
from tests.helper import (
    NOT_SHORT, STRANGE, assert_bad_values, deep_list, deep_row, deep_tuple, right_words, run, told_automaton, words_up_to,
)
from tests.test_reader import CLEAR, DOUBTFUL, EVEN, NO_COMMANDS, SURE, reader_behind

MANY = ("many", "a")

NO_JOURNALS = [
    None, True, False, 0, "", "read", [], [("read", "a")], {}, ("read", "a"), ("back",), ("read",), (None,), (True,), ((),),
    (("read", "a"), None), (("read", "a"), ["back"]), (("back",), "back"), ((("read", "a"),),), (("read", "a"),) * 21,
    (("read", "e"),), (("read", "a"), ("read", "ab")), (("read", "a"), ("read", "")), (("read", "a"), ("read", "E")),
    (("back",),) * 21, (("read", "a"), ("back",)) * 10 + (("read", "a"),), (("read", "a"),) * 100000, deep_list(1000),
    deep_tuple(1000), deep_row(1000), (deep_row(1000),), (("read", "a"), [("read", "a")]), b"", 1.5,
] + [(command,) for command in NO_COMMANDS] + [(("read", "a"), command) for command in NO_COMMANDS]


def random_journal(numbers, expression, most):
    """A journal of commands that are possible, as the numbers (a Random) tell."""
    reader = Reader(expression)
    for _ in range(numbers.randint(0, most)):
        commands = [("read", letter) for letter in reader.may_follow()] * 2 + [("back",)] * (reader.word() != "")
        if commands:
            reader.act(numbers.choice(commands))
    return reader.journal()


class Replayed(unittest.TestCase):
    def test_journals_of_all_kinds(self):
        numbers = random.Random(129)
        for expression in SURE:
            journal = random_journal(numbers, expression, 20)
            reader = replayed(expression, journal)
            self.assertIs(type(reader), Reader)
            self.assertEqual(reader.journal(), journal)
            word = ""
            for command in journal:
                word = word[:-1] if command == ("back",) else word + command[1]
            self.assertEqual(reader.word(), word)
            self.assertEqual(reader.places(), reader_behind(expression, word).places())
            other = Reader(expression)
            for command in journal:
                other.act(command)
            self.assertEqual(reader.records(), other.records())
            for command in reversed(journal):
                self.assertEqual(reader.undo(), command)
            self.assertEqual((reader.word(), reader.undo()), ("", None))

    def test_some(self):
        self.assertEqual(replayed(MANY, ()).journal(), ())
        self.assertEqual(replayed(MANY, (("read", "a"),) * 20).word(), "a" * 20)
        self.assertEqual(replayed(CLEAR, (("read", "a"), ("read", "b"), ("back",), ("back",))).word(), "")
        self.assertEqual(replayed("", ()).may_end(), True)

    def test_commands_that_are_not_possible(self):
        for expression, journal, why in (
            (CLEAR, (("read", "c"),), "letter"), (CLEAR, (("back",),), "begin"), (CLEAR, (("read", "a"), ("read", "d")), "letter"),
            (CLEAR, (("read", "a"), ("back",), ("back",)), "begin"), (CLEAR, (("read", "b"), ("read", "c"), ("read", "c")), "letter"),
            (CLEAR, (("back",), ("read", "c")), "begin"), (CLEAR, (("read", "c"), ("back",)), "letter"),
            ("", (("read", "a"),), "letter"), ("", (("back",),), "begin"), (MANY, (("read", "a"),) * 19 + (("read", "b"),), "letter"),
        ):
            with self.assertRaises(NotPossible) as caught:
                replayed(expression, journal)
            self.assertEqual(caught.exception.why, why)

    def test_a_replayed_reader_is_one_of_its_own(self):
        journal = (("read", "a"), ("read", "a"))
        one, other = replayed(MANY, journal), replayed(MANY, journal)
        one.act(("back",))
        self.assertEqual((one.word(), other.word(), journal), ("a", "aa", (("read", "a"), ("read", "a"))))

    def test_bad_values(self):
        wrong = {"expression": NOT_SHORT, "journal": NO_JOURNALS}
        assert_bad_values(self, replayed, ["expression", "journal"], {"expression": CLEAR, "journal": ()}, wrong)
        # What is wrong later in a journal comes ahead of what is not possible earlier.
        for journal in ((("back",), ("read", "e")), (("read", "d"), None), (("read", "d"),) * 21):
            with self.assertRaises(BadValue) as caught:
                replayed(CLEAR, journal)
            self.assertEqual(caught.exception.name, "journal")

    def test_doubts_come_ahead_of_the_other_arguments(self):
        for expression in DOUBTFUL:
            for at, value in enumerate(NO_JOURNALS + [(), (("read", "a"),), (("back",),), (("read", "d"),)]):
                with self.subTest(at=at):
                    for function in (replayed, are_right):
                        with self.assertRaises(NotPossible) as caught:
                            function(expression, value)
                        self.assertEqual(caught.exception.why, "doubt")


def told_right(expression, records):
    """Point 132, of records that have the right form, by right words alone."""
    word = ""
    for command, place, rest in records:
        if command == ("back",):
            if word == "":
                return False
            word = word[:-1]
        else:
            word += command[1]
            if run(told_automaton(expression), word) == -1:
                return False
        told = reader_behind(expression, word).places()[-1] if word else None
        if type(place) is not type(told) or place != told:
            return False
        if len(rest) > 24 or not matches(expression, word + rest):
            return False
    return True


class AreRight(unittest.TestCase):
    def test_all_single_records(self):
        for expression in SURE[::9] + [CLEAR, EVEN, MANY, "", "a"]:
            commands = [("back",)] + [("read", letter) for letter in "abcd"]
            for command, place, rest in product(commands, (None, 0, 1, 2, -1, True, False), words_up_to(2, "abc")):
                records = ((command, place, rest),)
                self.assertIs(are_right(expression, records), told_right(expression, records), (expression, records))

    def test_several_records(self):
        numbers = random.Random(132)
        told = {True: 0, False: 0}
        for expression in SURE:
            records = replayed(expression, random_journal(numbers, expression, 6)).records()
            self.assertIs(are_right(expression, records), True)
            for at, (command, place, rest) in enumerate(records):
                word = reader_behind(expression, "").word()
                for each in records[:at + 1]:
                    word = word[:-1] if each[0] == ("back",) else word + each[0][1]
                others = [(command, place, other[len(word):]) for other in right_words(expression, 6) if other.startswith(word)]
                others = others[:4] + [(command, place, rest + "a"), (command, place, rest[1:]), (command, place, "d"),
                                       (command, 0, rest), (command, None, rest), (command, (place or 0) + 1, rest),
                                       (("back",), place, rest), (("read", "a"), place, rest), (("read", "d"), place, rest)]
                for other in others:
                    changed = records[:at] + (other,) + records[at + 1:]
                    answer = told_right(expression, changed)
                    self.assertIs(are_right(expression, changed), answer, (expression, changed))
                    told[answer] += 1
        self.assertTrue(min(told.values()) > 500, told)

    def test_records_of_readers(self):
        numbers = random.Random(133)
        for expression in SURE:
            reader = replayed(expression, random_journal(numbers, expression, 20))
            self.assertIs(are_right(expression, reader.records()), True)
            self.assertEqual(tuple(record[0] for record in reader.records()), reader.journal())

    def test_rests_of_24_and_25_letters(self):
        read = ("read", "a")
        for many in range(24):
            self.assertIs(are_right(MANY, ((read, 0, "a" * many),)), True)
        self.assertIs(are_right(MANY, ((read, 0, "a" * 24),)), True)
        self.assertIs(are_right(MANY, ((read, 0, "a" * 25),)), False)
        self.assertIs(are_right(MANY, ((read, 0, "a" * 100000),)), False)
        self.assertIs(are_right(MANY, ((read, 0, "a" * 24),) * 20), True)
        self.assertIs(are_right(EVEN, ((read, 0, "b" + "ab" * 11),)), True)
        self.assertIs(are_right(EVEN, ((read, 0, "b" + "ab" * 12),)), False)
        self.assertIs(are_right(EVEN, ((read, 0, "ab" * 12),)), False)

    def test_twenty_and_twenty_one_records(self):
        record = (("read", "a"), 0, "")
        for many in range(21):
            self.assertIs(are_right(MANY, (record,) * many), True)
        for many in (21, 22, 100000):
            self.assertIs(are_right(MANY, (record,) * many), False)
        self.assertIs(are_right(MANY, ((("read", "a"), 0, ""), (("back",), None, "")) * 10), True)
        self.assertIs(are_right(MANY, ((("read", "a"), 0, ""), (("back",), None, "")) * 10 + (record,)), False)

    def test_places(self):
        self.assertIs(are_right(CLEAR, ((("read", "b"), 1, "c"), (("read", "d"), 3, ""), (("back",), 1, "d"))), True)
        for place in (None, 0, 2, 3, -1, True, "1", (1,), [1], 1.0, 10 ** 30, deep_row(1000)):
            self.assertIs(are_right(CLEAR, ((("read", "b"), place, "c"),)), False, place)
        for place in (None, True, False, "0", (0,), -1, 1, 0.0):
            self.assertIs(are_right(MANY, ((("read", "a"), place, ""),)), False, place)
        back = (("read", "a"), 0, "")
        self.assertIs(are_right(MANY, (back, (("back",), None, ""))), True)
        for place in (0, 1, -1, False, True, "", (), [], "None", 0.0):
            self.assertIs(are_right(MANY, (back, (("back",), place, ""))), False, place)

    def test_commands(self):
        for at, command in enumerate(NO_COMMANDS + [("back",), ("read", "b"), ("read", "d")]):
            with self.subTest(at=at):
                for place in (None, 0):
                    self.assertIs(are_right(MANY, ((command, place, ""),)), False)
                    self.assertIs(are_right(MANY, ((("read", "a"), 0, ""), (command, place, ""))),
                                  command == ("back",) and place is None)

    def test_other_forms(self):
        record = (("read", "a"), 0, "a")
        self.assertIs(are_right(MANY, (record, record)), True)
        for value in (None, True, False, 0, "", [], [record], record, (list(record),), (record, None), (record, ()),
                      (record[:2],), (record + ("",),), ((record,),), (record, list(record)), {}, ((["read", "a"], 0, "a"),),
                      (("read", 0, "a"),), ((("read", "a"), 0, None),), ((("read", "a"), 0, ("a",)),), ((("read", "a"), 0, ["a"]),),
                      ((("read", "a"), 0, "A"),), ((("read", "a"), 0, " "),), ((("read", "a"), 0, "e"),), ((("read", "a"), 0, 0),),
                      ((("read", "a"), 0, True),), ((("read", "a"), "a", 0),), ((0, ("read", "a"), "a"),), ("a",), ("abc",),
                      ((("read", "a"), 0, "b"),), ((("read", "a"), 0, "ab"),), ((("read", "a"), 0, b"a"),), (record, record, 0)):
            self.assertIs(are_right(MANY, value), False, value)
        self.assertIs(are_right(MANY, ()), True)
        self.assertIs(are_right("", ()), True)

    def test_strange_values(self):
        for expression in (MANY, CLEAR, "", EVEN):
            for at, value in enumerate(STRANGE + NO_JOURNALS + [deep_list(5000), deep_tuple(5000), deep_row(5000)]):
                with self.subTest(at=at):
                    self.assertIs(are_right(expression, value), False)
                    self.assertIs(are_right(expression, (value,)), False)
                    told = expression == MANY and value == ("read", "a")
                    self.assertIs(are_right(expression, ((value, 0, ""),)), told)
                    if value != "":
                        self.assertIs(are_right(expression, ((("read", "a"), 0, value),)),
                                      expression in (MANY, EVEN) and value == {MANY: "a", EVEN: "b"}[expression])
                    if value not in (0, 1) or type(value) is bool:
                        self.assertIs(are_right(expression, ((("read", "a"), value, ""),)), False)

    def test_nothing_is_changed(self):
        records = [[["read", "a"], 0, "a"]]
        are_right(MANY, records)
        are_right(MANY, (records,))
        self.assertEqual(records, [[["read", "a"], 0, "a"]])

    def test_bad_values(self):
        for value in ((), None, ((("read", "a"), 0, ""),), deep_row(1000)):
            assert_bad_values(self, lambda expression: are_right(expression, value),
                              ["expression"], {}, {"expression": NOT_SHORT})
