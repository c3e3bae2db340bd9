"""Points 105 to 108, 111 to 113: colors, crowds, and grounds for a number of colors."""

import random
import unittest
from itertools import combinations, product
from time import process_time
from unittest import mock

from nodoubt.colors import (
    accepts_colors, color_grounds, color_number, greatest_crowd, separates, told_coloring,
)
from nodoubt.doubts import conflicts, is_sure
from tests.helper import (
    NOT_SHORT, STRANGE, all_expressions, assert_bad_values, deep_list, deep_row, deep_tuple, larger_ones,
    leaf_letters,
)
from tests.test_doubts import told_conflicts

THREE = ("many", ("join", (("maybe", "a"), ("maybe", "a"), ("maybe", "a"))))
TWO = ("or", (("join", ("a", "b")), ("join", ("a", "c")), "b"))
EIGHT = ("or", ("a",) * 8)
CLEAR = ("join", (("many", "a"), "b", ("or", ("c", "d"))))

SMALL = all_expressions(4, ["a", "b", ""]) + all_expressions(5, ["a"]) + [THREE, TWO, CLEAR]
LARGER = larger_ones(105, 400, 24, False) + larger_ones(106, 400, 24, False, ["a", "a", "b", "a", "b", "", "c"])
CROWDED = [EIGHT, ("or", ("b",) + ("a",) * 6 + ("b",)), ("or", ("a",) * 7 + ("b",)),
           ("or", ("b",) + ("a",) * 7), ("or", ("a", "b") * 4),
           ("many", ("or", ("a", "b", "c", "d") * 2)), ("or", ("b", "a", "a", "b", "a", "b", "b", "a"))]

# Rings and other ways in which places could be in conflict; of some of them no expression is known that has them.
RINGS = [[tuple(sorted((at, (at + 1) % many))) for at in range(many)] for many in (3, 4, 5, 6, 7, 8)]
WHEELS = [ring + [(at, len(ring)) for at in range(len(ring))] for ring in RINGS[:5]]
TWICE = [ring + [(one + 4, other + 4) for one, other in ring] for ring in RINGS[:2]]


def all_pairs(seed, many):
    """Conflicts of eight places as the seed tells."""
    numbers = random.Random(seed)
    found = []
    for _ in range(many):
        dense = numbers.choice((0.1, 0.2, 0.3, 0.4, 0.6, 0.9))
        found.append([pair for pair in combinations(range(8), 2) if numbers.random() < dense])
    return found


GRAPHS = RINGS + WHEELS + TWICE + [[], [(6, 7)], list(combinations(range(7), 2))] + all_pairs(107, 150)


def is_proper(pairs, coloring):
    return all(coloring[one] != coloring[other] for one, other in pairs)


def told_number_and_coloring(pairs, many):
    """The number of colors and the first coloring, by going through all colorings, the ones of few colors first."""
    for number in range(1, 9):
        rows = product(range(number), repeat=many)
        if number ** many > 20000:
            # They are far too many, so only those that are proper as far as they go are gone on with.
            rows = [()]
            for place in range(many):
                near = [min(pair) for pair in pairs if max(pair) == place]
                rows = [row + (color,) for row in rows for color in range(number)
                        if all(row[other] != color for other in near)]
        for coloring in rows:
            if is_proper(pairs, coloring):
                return number, coloring
    return None


def told_crowd(pairs, many):
    """The greatest crowd, by going through all tuples of places."""
    found = [row for size in range(many + 1) for row in combinations(range(many), size)
             if all(pair in pairs for pair in combinations(row, 2))]
    most = max(len(row) for row in found)
    return min(row for row in found if len(row) == most)


class Numbers(unittest.TestCase):
    def check(self, expression, pairs):
        many = len(leaf_letters(expression))
        number, coloring = told_number_and_coloring(pairs, many)
        crowd = told_crowd(pairs, many)
        self.assertEqual(color_number(expression), number, (expression, pairs))
        self.assertEqual(told_coloring(expression), coloring, (expression, pairs))
        self.assertEqual(greatest_crowd(expression), crowd, (expression, pairs))
        grounds = (coloring, () if number == 1 else crowd)
        told = None if number > 1 and len(crowd) < number else grounds
        self.assertEqual(color_grounds(expression), told, (expression, pairs))
        for other in range(1, 9):
            self.assertIs(accepts_colors(expression, other, grounds), told is not None and other == number)
            self.assertIs(accepts_colors(expression, other, (coloring, crowd)), len(crowd) == other == number or
                          many == 0 and other == 1)
        # At most one more than the most conflicts of a place; and a place without one has the color 0.
        near = [sum(place in pair for pair in pairs) for place in range(many)]
        self.assertLessEqual(number, 1 + max(near, default=0))
        self.assertTrue(all(coloring[place] == 0 for place in range(many) if near[place] == 0))
        self.assertIs(number == 1, pairs == [])
        return number, told is not None

    def test_expressions(self):
        told = set()
        for expression in SMALL + LARGER + CROWDED:
            pairs = told_conflicts(expression)
            number, _ = self.check(expression, pairs)
            self.assertIs(number == 1, is_sure(expression))
            told.add(number)
        self.assertEqual(told, set(range(1, 9)))

    def test_other_conflicts(self):
        told = set()
        for pairs in GRAPHS:
            expression = ("join", ("a",) * max(8, 1 + max((other for _, other in pairs), default=0)))
            with mock.patch("nodoubt.colors.conflicts", lambda each: list(pairs)):
                told.add(self.check(expression, pairs))
        self.assertTrue({(3, False), (4, False), (3, True), (4, True), (2, True), (1, True)} <= told, told)

    def test_five_places_without_grounds(self):
        with mock.patch("nodoubt.colors.conflicts", lambda each: RINGS[2]):
            expression = ("join", ("a",) * 5)
            self.assertEqual(color_number(expression), 3)
            self.assertEqual(told_coloring(expression), (0, 1, 0, 1, 2))
            self.assertEqual(greatest_crowd(expression), (0, 1))
            self.assertIsNone(color_grounds(expression))
            for number, crowd in product(range(1, 9), [(0, 1), (0, 1, 2), (0, 2, 4), (), (0,)]):
                told = accepts_colors(expression, number, ((0, 1, 0, 1, 2), crowd))
                self.assertIs(told, False, (number, crowd))

    def test_some(self):
        for expression, number, coloring, crowd, grounds in (
            ("", 1, (), (), ((), ())),
            (("or", ("", "")), 1, (), (), ((), ())),
            (("many", ("maybe", "")), 1, (), (), ((), ())),
            ("d", 1, (0,), (0,), ((0,), ())),
            (CLEAR, 1, (0, 0, 0, 0), (0,), ((0, 0, 0, 0), ())),
            (THREE, 3, (0, 1, 2), (0, 1, 2), ((0, 1, 2), (0, 1, 2))),
            (TWO, 2, (0, 0, 1, 0, 0), (0, 2), ((0, 0, 1, 0, 0), (0, 2))),
            (EIGHT, 8, tuple(range(8)), tuple(range(8)), (tuple(range(8)),) * 2),
            (("or", ("a", "b", "a", "b")), 2, (0, 0, 1, 1), (0, 2), ((0, 0, 1, 1), (0, 2))),
            (("or", ("c", "a", "b", "a", "b", "b")), 3, (0, 0, 0, 1, 1, 2), (2, 4, 5), ((0, 0, 0, 1, 1, 2), (2, 4, 5))),
        ):
            self.assertEqual(color_number(expression), number)
            self.assertEqual(told_coloring(expression), coloring)
            self.assertEqual(greatest_crowd(expression), crowd)
            self.assertEqual(color_grounds(expression), grounds)
            self.assertIs(accepts_colors(expression, number, grounds), True)

    def test_kinds(self):
        for expression in ("", "a", TWO, THREE, EIGHT):
            self.assertIs(type(color_number(expression)), int)
            grounds = color_grounds(expression)
            self.assertEqual([type(each) for each in grounds], [tuple, tuple])
            self.assertIs(type(grounds), tuple)
            for row in (told_coloring(expression), greatest_crowd(expression)) + grounds:
                self.assertIs(type(row), tuple)
                self.assertTrue(all(type(each) is int for each in row))

    def test_stays_quick(self):
        begin = process_time()
        for expression in CROWDED:
            color_grounds(expression)
            greatest_crowd(expression)
        self.assertLess(process_time() - begin, 2)

    def test_what_is_told_apart_by_colors_is_read_without_a_doubt(self):
        # Letters of different colors are taken for different letters (point 105).
        checked = 0
        for expression in SMALL + LARGER:
            letters = leaf_letters(expression)
            if "d" not in letters and len(set(letters)) == 1 and color_number(expression) <= 4:
                checked += 1
                other = painted(expression, iter("abcd"[color] for color in told_coloring(expression)))
                self.assertIs(is_sure(other), True, (expression, other))
        self.assertGreater(checked, 50)


def painted(expression, symbols):
    """The expression with the next one of the symbols for each letter."""
    if isinstance(expression, str):
        return next(symbols) if expression else ""
    word, inner = expression
    if word in ("maybe", "many"):
        return word, painted(inner, symbols)
    return word, tuple(painted(part, symbols) for part in inner)


class Separates(unittest.TestCase):
    def test_all_colorings(self):
        for expression in (TWO, THREE, "a", "", ("or", ("a", "b", "a")), ("many", ("or", ("a", "a"))),
                           ("join", ("a", ("or", ("b", "b"))))):
            many = len(leaf_letters(expression))
            colors = range(-1, 10) if many < 4 else (-1, 0, 1, 7, 8)
            for value in product(colors, repeat=many):
                told = all(0 <= color <= 7 for color in value) and is_proper(told_conflicts(expression), value)
                self.assertIs(separates(expression, value), told, (expression, value))

    def test_larger_ones(self):
        numbers = random.Random(108)
        told = {True: 0, False: 0}
        for expression in LARGER:
            letters = leaf_letters(expression)
            for most in (1, 2, 7):
                value = tuple(numbers.randint(0, most) for _ in letters)
                answer = is_proper(told_conflicts(expression), value)
                self.assertIs(separates(expression, value), answer, (expression, value))
                told[answer] += 1
        self.assertTrue(min(told.values()) > 200, told)

    def test_places_in_conflict_of_one_color(self):
        for expression in LARGER + CROWDED:
            coloring = told_coloring(expression)
            self.assertIs(separates(expression, coloring), True)
            for one, other in conflicts(expression)[:5]:
                for place, color in ((one, coloring[other]), (other, coloring[one])):
                    wrong = coloring[:place] + (color,) + coloring[place + 1:]
                    self.assertIs(separates(expression, wrong), False, (expression, wrong))
            for wrong in (coloring + (0,), coloring[1:] + (0, 1), coloring[:-1], list(coloring), coloring[:-1] + (8,),
                          (-1,) + coloring[1:], coloring[:-1] + (True,), (False,) + coloring[1:], (None,) + coloring[1:],
                          coloring[:-1] + ("0",), coloring[:-1] + ((0,),), (coloring,), "".join(map(str, coloring))):
                self.assertIs(separates(expression, wrong), False, (expression, wrong))

    def test_strange_values(self):
        for expression in ("a", TWO, THREE, EIGHT, ("or", ("", ""))):
            for at, value in enumerate(STRANGE + [deep_list(5000), deep_tuple(5000), (), (0,), (7,), (8,), [7]]):
                with self.subTest(at=at):
                    flat = type(value) is tuple and all(type(color) is int for color in value)
                    told = flat and value in {"a": ((0,), (7,)), ("or", ("", "")): ((),)}.get(expression, ())
                    self.assertIs(separates(expression, value), told)
                    self.assertIs(separates("a", (value,)), type(value) is int and 0 <= value < 8)


class AcceptsColors(unittest.TestCase):
    def test_all_grounds(self):
        # All colorings, crowds and numbers of some expressions.
        for expression in (("or", ("a", "b", "a")), ("many", ("or", ("a", "a"))), "a", "", ("or", ("a", "a", "a")),
                           ("join", ("a", ("or", ("b", "b"))))):
            many = len(leaf_letters(expression))
            pairs = told_conflicts(expression)
            colorings = list(product(range(3), repeat=many)) + [(0,) * (many + 1), (3,) * many, tuple(range(many))]
            rows = [row for size in range(4) for row in product(range(-1, many + 1), repeat=size)]
            for coloring, row, number in product(colorings, rows, (1, 2, 3, 8)):
                told = told_accepts(pairs, many, number, coloring, row)
                self.assertIs(accepts_colors(expression, number, (coloring, row)), told, (expression, number, coloring, row))
                self.assertTrue(not told or number == color_number(expression))

    def test_larger_ones(self):
        numbers = random.Random(109)
        accepted = 0
        for expression in LARGER + CROWDED:
            coloring, crowd = color_grounds(expression)
            number = color_number(expression)
            many = len(coloring)
            pairs = told_conflicts(expression)
            crowds = [crowd, crowd[1:], crowd[:-1], (), (0,), tuple(range(number)), tuple(range(many - number, many)),
                      tuple(sorted(numbers.sample(range(many), min(many, number))))]
            exchanged = tuple((number - 1 - color) for color in coloring)
            greater = tuple(color + 1 for color in coloring)
            for row, each, other in product(crowds, (coloring, exchanged, greater), (number, number + 1, number - 1)):
                if 1 <= other <= 8:
                    told = told_accepts(pairs, many, other, each, row)
                    self.assertIs(accepts_colors(expression, other, (each, row)), told, (expression, other, each, row))
                    accepted += told
        self.assertGreater(accepted, 1000)

    def test_one_color(self):
        # The crowd has one place, whichever it is, or it is empty; color_grounds returns the empty one.
        for expression in ("a", CLEAR, ("join", ("a",) * 8)):
            coloring = told_coloring(expression)
            many = len(coloring)
            self.assertEqual(color_grounds(expression), (coloring, ()))
            for crowd in [()] + [(place,) for place in range(many)]:
                self.assertIs(accepts_colors(expression, 1, (coloring, crowd)), True, crowd)
                for number in range(2, 9):
                    self.assertIs(accepts_colors(expression, number, (coloring, crowd)), False, (number, crowd))
                for wrong in ((1,) * many, (0,) * (many - 1) + (1,), (0,) * (many + 1), coloring[1:], [0] * many,
                              (False,) * many, None):
                    self.assertIs(accepts_colors(expression, 1, (wrong, crowd)), False, (wrong, crowd))
            for crowd in ((many,), (-1,), (9,), (0, 0), (0, 1), (1, 0), (0, many - 1), (0, 1, 2), [], [0], {0: 0}, {0},
                          None, 0, "", "0", ("0",), ((),), ((0,),), (None,), (False,), (True,), (0.0,), (10 ** 30,)):
                self.assertIs(accepts_colors(expression, 1, (coloring, crowd)), False, crowd)

    def test_one_color_without_places(self):
        for expression in ("", ("or", ("", "")), ("many", ("maybe", ""))):
            self.assertIs(accepts_colors(expression, 1, ((), ())), True)
            self.assertIs(accepts_colors(expression, 2, ((), ())), False)
            for crowd in ((0,), (-1,), (1,), (0, 1), [], None, ((),)):
                self.assertIs(accepts_colors(expression, 1, ((), crowd)), False, crowd)

    def test_one_color_where_there_are_conflicts(self):
        for expression in (TWO, THREE, EIGHT):
            many = len(leaf_letters(expression))
            for crowd in [()] + [(place,) for place in range(many)]:
                for coloring in ((0,) * many, told_coloring(expression)):
                    self.assertIs(accepts_colors(expression, 1, (coloring, crowd)), False, (coloring, crowd))

    def test_wrong_ones(self):
        good = (0, 0, 1, 0, 0), (0, 2)
        self.assertIs(accepts_colors(TWO, 2, good), True)
        self.assertIs(accepts_colors(TWO, 2, ((1, 0, 0, 1, 1), (0, 2))), True)
        for value in (list(good), good + ((),), good[:1], good[0], good[::-1], (list(good[0]), good[1]), (good,), (),
                      (good[0], list(good[1])), (good[0], (2, 0)), (good[0], (0, 0)), (good[0], (0, 1)), (good[0], (0,)),
                      (good[0], (0, 2, 4)), (good[0], (0, 5)), (good[0], (-1, 2)), (good[0], (0, 10 ** 30)),
                      (good[0], (False, 2)), (good[0], ("0", "2")), (good[0], None), (good[0], True), (good[0], 2),
                      (good[0], ((0, 2),)), (good[0], (0, 2.0)), ((0, 0, 2, 0, 0), good[1]), ((0, 0, 0, 0, 0), good[1]),
                      ((0, 0, True, 0, 0), good[1]), ((0, 0, 1, 0), good[1]), ((0, 0, 1, 0, 0, 0), good[1]),
                      ((-1, 0, 1, 0, 0), good[1]), (None, good[1]), ((), good[1]), ("00100", good[1]), {good[0]: good[1]},
                      (good[0], good[1], None), ((0, 0, 1, 0, 2), good[1])):
            self.assertIs(accepts_colors(TWO, 2, value), False, value)
        for number in (1, 3, 4, 8):
            self.assertIs(accepts_colors(TWO, number, good), False)
        self.assertIs(accepts_colors(THREE, 2, ((0, 1, 0), (0, 1))), False)
        self.assertIs(accepts_colors(THREE, 3, ((2, 1, 0), (0, 1, 2))), True)
        for crowd in ((0, 2, 1), (2, 1, 0), (0, 1), (0, 1, 1), (0, 1, 3), (0, 1, 2, 3)):
            self.assertIs(accepts_colors(THREE, 3, ((0, 1, 2), crowd)), False)

    def test_strange_values(self):
        for number in range(1, 9):
            for at, value in enumerate(STRANGE + [deep_list(5000), deep_tuple(5000), deep_row(5000), ()]):
                with self.subTest(at=at):
                    for expression in ("a", TWO, THREE, EIGHT):
                        coloring, crowd = color_grounds(expression)
                        self.assertIs(accepts_colors(expression, number, value), False)
                        self.assertIs(accepts_colors(expression, number, (value, value)), False)
                        self.assertIs(accepts_colors(expression, number, (value, crowd)), False)
                        told = expression == "a" and number == 1 and value == () and type(value) is tuple
                        self.assertIs(accepts_colors(expression, number, (coloring, value)), told)

    def test_nothing_is_changed(self):
        value = [[0, 0, 1, 0, 0], [0, 2]]
        accepts_colors(TWO, 2, value)
        accepts_colors(TWO, 2, (value[0], value[1]))
        separates(TWO, value[0])
        self.assertEqual(value, [[0, 0, 1, 0, 0], [0, 2]])


def told_accepts(pairs, many, number, coloring, row):
    """What point 108 says of a coloring and a crowd that are tuples of integers."""
    if len(coloring) != many or any(color not in range(min(number, 8)) for color in coloring):
        return False
    if not is_proper(pairs, coloring) or list(row) != sorted(set(row)):
        return False
    if any(place not in range(many) for place in row) or any(pair not in pairs for pair in combinations(row, 2)):
        return False
    return len(row) == number or number == 1 and row == ()


class Wrong(unittest.TestCase):
    def test_bad_values(self):
        wrong = {"expression": NOT_SHORT, "number": [0, 9, -1, True, False, None, "1", "", (), [1], (1,), 1.0, 10 ** 30,
                                                     -(10 ** 30), deep_row(1000), deep_list(1000)]}
        for function in (color_number, told_coloring, greatest_crowd, color_grounds):
            assert_bad_values(self, function, ["expression"], {}, wrong)
        for value in ((0,), None, deep_row(1000), ((0,), ())):
            assert_bad_values(self, lambda expression: separates(expression, value), ["expression"], {}, wrong)
            assert_bad_values(self, lambda expression, number: accepts_colors(expression, number, value),
                              ["expression", "number"], {"expression": "a", "number": 1}, wrong)

    def test_numbers_that_are_let(self):
        for number in range(1, 9):
            self.assertIs(accepts_colors("a", number, ((0,), ())), number == 1)
        self.assertIs(accepts_colors(EIGHT, 8, color_grounds(EIGHT)), True)
