"""Points 109 to 111 and 113: choices that part the conflicts, and odd rounds."""

import random
import unittest
from itertools import combinations, permutations, product
from time import process_time
from unittest import mock

from nodoubt.choices import accepts_round, parts_conflicts, smallest_choice, told_round
from nodoubt.colors import color_number, separates
from tests.helper import (
    NOT_SHORT, STRANGE, all_expressions, assert_bad_values, deep_list, deep_row, deep_tuple, larger_ones, leaf_letters,
)
from tests.test_colors import CLEAR, CROWDED, EIGHT, GRAPHS, RINGS, THREE, TWO
from tests.test_doubts import told_conflicts

SMALL = all_expressions(4, ["a", "b", ""]) + all_expressions(5, ["a"]) + [THREE, TWO, CLEAR]
LARGER = larger_ones(109, 700, 24, False) + larger_ones(110, 300, 24, False, ["a", "a", "b", "a", "b", "", "c"])


def told_parts(pairs, many, row):
    """What point 109 says of a tuple of integers."""
    if list(row) != sorted(set(row)) or any(place not in range(many) for place in row):
        return False
    return all(len({one, other} & set(row)) == 1 for one, other in pairs)


def told_choice(pairs, many):
    """The smallest choice, by going through all of them."""
    rows = [row for size in range(many + 1) for row in combinations(range(many), size)]
    return next((row for row in rows if told_parts(pairs, many, row)), None)


def told_odd(pairs, many, row):
    """What point 110 says of a tuple of integers."""
    if len(row) < 3 or len(row) not in range(1, 99, 2) or len(set(row)) != len(row):
        return False
    if any(place not in range(many) for place in row):
        return False
    return all(tuple(sorted(pair)) in pairs for pair in zip(row, row[1:] + row[:1]))


def told_first_round(pairs, many):
    """The told round, by going through all tuples; of seven places only those that begin with the least one."""
    for size in (3, 5):
        for row in permutations(range(many), size):
            if told_odd(pairs, many, row):
                return row
    for row in permutations(range(many), 7):
        if row[0] > min(row) or row[0] > 1:
            continue
        if told_odd(pairs, many, row):
            return row
    return None


class Told(unittest.TestCase):
    def check(self, expression, pairs):
        many = len(leaf_letters(expression))
        choice = told_choice(pairs, many)
        self.assertEqual(smallest_choice(expression), choice, (expression, pairs))
        # Where there is a choice, a tuple of seven need not be looked for.
        ring = told_first_round(pairs, many) if choice is None else None
        self.assertEqual(told_round(expression), ring, (expression, pairs))
        self.assertIs((choice is None) != (ring is None), True, (expression, pairs))
        if choice is not None:
            self.assertIs(parts_conflicts(expression, choice), True)
            self.assertTrue(all(any(place in pair for pair in pairs) for place in choice))
            self.assertIs(type(choice), tuple)
        else:
            self.assertIs(accepts_round(expression, ring), True)
        return None if ring is None else len(ring)

    def test_expressions(self):
        told = {None: 0, 3: 0}
        for expression in SMALL + LARGER + CROWDED:
            pairs = told_conflicts(expression)
            size = self.check(expression, pairs)
            told[size] += 1
            # Two colors are enough exactly if some choice parts the conflicts.
            self.assertIs(size is None, color_number(expression) <= 2, expression)
        self.assertTrue(min(told.values()) > 100, told)

    def test_other_conflicts(self):
        told = set()
        for pairs in GRAPHS:
            expression = ("join", ("a",) * max(8, 1 + max((other for _, other in pairs), default=0)))
            with mock.patch("nodoubt.choices.conflicts", lambda each: list(pairs)):
                told.add(self.check(expression, pairs))
        self.assertEqual(told, {None, 3, 5, 7})

    def test_rings(self):
        for pairs, choice, ring in ((RINGS[0], None, (0, 1, 2)), (RINGS[1], (0, 2), None), (RINGS[2], None, (0, 1, 2, 3, 4)),
                                    (RINGS[3], (0, 2, 4), None), (RINGS[4], None, (0, 1, 2, 3, 4, 5, 6)),
                                    (RINGS[5], (0, 2, 4, 6), None)):
            expression = ("join", ("a",) * 8)
            with mock.patch("nodoubt.choices.conflicts", lambda each: pairs):
                self.assertEqual(smallest_choice(expression), choice)
                self.assertEqual(told_round(expression), ring)
                for row in permutations(range(8), 3):
                    self.assertIs(accepts_round(expression, row), pairs == RINGS[0] and set(row) == {0, 1, 2})
        with mock.patch("nodoubt.choices.conflicts", lambda each: RINGS[2]):
            for begin in range(5):
                row = tuple((begin + at) % 5 for at in range(5))
                self.assertIs(accepts_round(expression, row), True)
                self.assertIs(accepts_round(expression, row[::-1]), True)
                self.assertIs(accepts_round(expression, row[:3]), False)
                self.assertIs(accepts_round(expression, row[:4]), False)
                self.assertIs(accepts_round(expression, (row[1], row[0]) + row[2:]), False)

    def test_some(self):
        for expression, choice, ring in (
            ("", (), None),
            ("a", (), None),
            (CLEAR, (), None),
            (TWO, (0,), None),
            (THREE, None, (0, 1, 2)),
            (EIGHT, None, (0, 1, 2)),
            (("or", ("a", "a")), (0,), None),
            (("or", ("a", "b", "a", "b")), (0, 1), None),
            (("or", ("b", "a", "a", "c", "a")), None, (1, 2, 4)),
        ):
            self.assertEqual((smallest_choice(expression), told_round(expression)), (choice, ring))

    def test_fewest_places_and_not_the_first_tuple(self):
        for pairs, choice in (([(0, 3), (1, 3), (2, 3)], (3,)), ([(0, 2), (1, 2), (3, 4)], (2, 3)), ([(5, 6)], (5,)),
                              ([(0, 7), (1, 7), (2, 6), (3, 6)], (6, 7)), ([(0, 1), (1, 2)], (1,)),
                              ([(0, 1), (2, 3)], (0, 2)), ([(0, 1), (1, 2), (2, 3)], (0, 2))):
            with mock.patch("nodoubt.choices.conflicts", lambda each: pairs):
                self.assertEqual(smallest_choice(("join", ("a",) * 8)), choice)
                self.assertEqual(told_choice(pairs, 8), choice)

    def test_places_without_conflicts_are_not_in_the_choice(self):
        checked = 0
        for expression in LARGER:
            choice = smallest_choice(expression)
            if choice:
                checked += 1
                pairs = told_conflicts(expression)
                self.assertTrue(all(any(place in pair for pair in pairs) for place in choice), expression)
        self.assertGreater(checked, 50)

    def test_stays_quick(self):
        begin = process_time()
        halves = [(one, other) for one in range(4) for other in range(4, 8)]
        with mock.patch("nodoubt.choices.conflicts", lambda each: halves):
            self.assertIsNone(told_round(EIGHT))
            self.assertEqual(smallest_choice(EIGHT), (0, 1, 2, 3))
        for expression in CROWDED:
            told_round(expression)
            smallest_choice(expression)
        self.assertLess(process_time() - begin, 2)

    def test_kinds(self):
        for row in (smallest_choice(TWO), smallest_choice("a"), told_round(THREE)):
            self.assertIs(type(row), tuple)
            self.assertTrue(all(type(place) is int for place in row))


class Parts(unittest.TestCase):
    def test_all_tuples(self):
        for expression in (TWO, THREE, CLEAR, "a", "", ("or", ("a", "b", "a", "b")), ("many", ("or", ("a", "a")))):
            pairs = told_conflicts(expression)
            many = len(leaf_letters(expression))
            for size in range(4):
                for row in product(range(-1, many + 1), repeat=size):
                    self.assertIs(parts_conflicts(expression, row), told_parts(pairs, many, row), (expression, row))

    def test_larger_ones(self):
        told = {True: 0, False: 0}
        for expression in LARGER:
            pairs = told_conflicts(expression)
            many = len(leaf_letters(expression))
            for size in range(many + 1):
                for row in combinations(range(many), size):
                    answer = told_parts(pairs, many, row)
                    self.assertIs(parts_conflicts(expression, row), answer, (expression, row))
                    told[answer] += 1
                    if answer:
                        # So the places in it and the others can have two colors.
                        coloring = tuple(int(place in row) for place in range(many))
                        self.assertIs(separates(expression, coloring), True)
            if sum(told.values()) > 20000:
                break
        self.assertTrue(min(told.values()) > 300, told)

    def test_other_forms(self):
        self.assertIs(parts_conflicts(TWO, (0,)), True)
        self.assertIs(parts_conflicts(TWO, (2,)), True)
        self.assertIs(parts_conflicts(TWO, (1, 2, 3, 4)), True)
        for value in ([0], 0, "0", None, (None,), (False,), (0, 2), (), (1,), (0, 0), (1, 0), (0, 5), (-1, 0), (0, 10 ** 30),
                      ((0,),), (0.0,), {0: 0}, ("0",), (0, True), (True, 2), ([0],), b"\x00", (0, None)):
            self.assertIs(parts_conflicts(TWO, value), False, value)

    def test_strange_values(self):
        for expression in (TWO, THREE, EIGHT):
            for at, value in enumerate(STRANGE + [deep_list(5000), deep_tuple(5000), deep_row(5000), (1,)]):
                with self.subTest(at=at):
                    self.assertIs(parts_conflicts(expression, value), False)
                    self.assertIs(parts_conflicts(expression, (1, value)), False)
        for value in STRANGE:
            self.assertIs(parts_conflicts("", value), False)
        self.assertIs(parts_conflicts("", ()), True)
        self.assertIs(parts_conflicts("a", (0,)), True)


class AcceptsRound(unittest.TestCase):
    def test_all_tuples(self):
        accepted = 0
        for expression in (THREE, TWO, "a", "", ("or", ("a", "a", "b", "a")), ("many", ("or", ("a", "a")))):
            pairs = told_conflicts(expression)
            many = len(leaf_letters(expression))
            for size in range(6):
                for row in product(range(-1, many + 1), repeat=size):
                    told = told_odd(pairs, many, row)
                    self.assertIs(accepts_round(expression, row), told, (expression, row))
                    accepted += told
        self.assertEqual(accepted, 12)

    def test_larger_ones(self):
        numbers = random.Random(111)
        told = {True: 0, False: 0}
        for expression in LARGER + CROWDED:
            pairs = told_conflicts(expression)
            many = len(leaf_letters(expression))
            near = sorted({place for pair in pairs for place in pair})
            for size in (2, 3, 4, 5, 6, 7, 8):
                if size <= len(near):
                    row = tuple(numbers.sample(near, size))
                    answer = told_odd(pairs, many, row)
                    self.assertIs(accepts_round(expression, row), answer, (expression, row))
                    told[answer] += 1
                    # Never both a round and a choice.
                    self.assertTrue(not answer or smallest_choice(expression) is None)
        self.assertTrue(min(told.values()) > 100, told)

    def test_eight_places_in_conflict(self):
        for size in range(9):
            row = tuple(range(8))[:size]
            self.assertIs(accepts_round(EIGHT, row), size in (3, 5, 7))
            self.assertIs(accepts_round(EIGHT, row[::-1]), size in (3, 5, 7))
            self.assertIs(accepts_round(EIGHT, row[:1] + row), False)
        self.assertIs(accepts_round(EIGHT, tuple(range(8)) + (0,)), False)
        self.assertIs(accepts_round(EIGHT, tuple(range(9))), False)

    def test_other_forms(self):
        self.assertIs(accepts_round(THREE, (1, 2, 0)), True)
        self.assertIs(accepts_round(TWO, (0, 2, 0)), False)
        for value in ([0, 1, 2], (0, 1), (0, 1, 1), (0, 0, 1), (0, 1, 0), (0, 1, 2, 0), (0, 1, 2, 0, 1), (0, 1, 3), (-1, 0, 1),
                      (0,), (), "012", None, True, 3, (0, True, 2), (False, 1, 2), (0, 1, None), (0, 1, "2"), (0, 1, (2,)),
                      (0, 1, [2]), (0.0, 1, 2), ((0, 1, 2),), {0: 1}, (0, 1, 10 ** 30), (0, 1, 2, None), b"\x00\x01\x02",
                      (2, 1, 0, -1), (0, 1, 2) * 1001):
            self.assertIs(accepts_round(THREE, value), False, value)

    def test_strange_values(self):
        for expression in ("a", "", TWO, THREE, EIGHT):
            for at, value in enumerate(STRANGE + [deep_list(5000), deep_tuple(5000), deep_row(5000), ()]):
                with self.subTest(at=at):
                    self.assertIs(accepts_round(expression, value), False)
                    self.assertIs(accepts_round(expression, (value, value, value)), False)
                    if type(value) is not int:
                        self.assertIs(accepts_round(expression, (0, 1, value)), False)

    def test_nothing_is_changed(self):
        value = [0, 1, 2]
        accepts_round(THREE, value)
        parts_conflicts(THREE, value)
        self.assertEqual(value, [0, 1, 2])


class Wrong(unittest.TestCase):
    def test_bad_values(self):
        for function in (smallest_choice, told_round):
            assert_bad_values(self, function, ["expression"], {}, {"expression": NOT_SHORT})
        for value in ((), (0, 1, 2), None, deep_row(1000)):
            for judge in (parts_conflicts, accepts_round):
                assert_bad_values(self, lambda expression: judge(expression, value),
                                  ["expression"], {}, {"expression": NOT_SHORT})
