"""Points 8 and the interface of nodoubt/errors.py."""

import unittest

from nodoubt.errors import BadValue, DoubtError, NotPossible, TextError, TooLarge

BELOW = [BadValue, TooLarge, NotPossible, TextError]


class Errors(unittest.TestCase):
    def test_classes(self):
        self.assertTrue(issubclass(DoubtError, ValueError))
        for one in BELOW:
            self.assertTrue(issubclass(one, DoubtError))
            self.assertIsNot(one, DoubtError)
            for other in BELOW:
                self.assertEqual(issubclass(one, other), one is other)

    def test_module(self):
        for one in BELOW + [DoubtError]:
            self.assertEqual(one.__module__, "nodoubt.errors")

    def test_attributes(self):
        self.assertEqual(BadValue("expression").name, "expression")
        self.assertEqual(TooLarge("states").what, "states")
        self.assertEqual(NotPossible("doubt").why, "doubt")
        error = TextError(11, "there are at most 8 letters")
        self.assertEqual((error.column, error.words), (11, "there are at most 8 letters"))

    def test_attributes_by_keyword(self):
        self.assertEqual(BadValue(name="word").name, "word")
        self.assertEqual(TooLarge(what="places").what, "places")
        self.assertEqual(NotPossible(why="still").why, "still")
        error = TextError(column=1, words="x")
        self.assertEqual((error.column, error.words), (1, "x"))

    def test_attributes_belong_to_the_object(self):
        first, second = BadValue("one"), BadValue("two")
        self.assertEqual((first.name, second.name), ("one", "two"))

    def test_catching(self):
        for error in [BadValue("x"), TooLarge("x"), NotPossible("x"), TextError(1, "x"), DoubtError("x")]:
            for base in (DoubtError, ValueError):
                with self.assertRaises(base):
                    raise error
            self.assertIsInstance(str(error), str)
