"""Points 73 to 82: going inward, and reasons that a system is not smooth."""

import random
import unittest
from functools import lru_cache
from itertools import product

from nodoubt.automata import automaton_of
from nodoubt.doubts import is_sure
from nodoubt.errors import BadValue, NotPossible
from nodoubt.inward import (
    accepts_reason, behind, first_reason, inward, is_path, is_smooth, is_stuck, simple_paths,
)
from nodoubt.orbits import is_system, system_of
from tests.helper import (
    STAIRS, STRANGE, all_expressions, assert_bad_values, deep_list, deep_row, deep_tuple, larger_ones, random_stairs,
    random_system, told_alike, told_consistent, told_cut, told_gates, told_inner, told_orbit, told_orbits, told_round,
    told_system,
)
from tests.test_orbits import BAD_SYSTEMS, NO_STATES

NUMBERS = random.Random(73)
SYSTEMS = [random_system(NUMBERS, most, letters) for most, letters in [
    (3, "ab"), (6, "abcd"), (12, "abc"), (8, "abcd")] for _ in range(70)]
SYSTEMS += [random_stairs(NUMBERS) for _ in range(250)]
SYSTEMS += [told_system(each) for each in larger_ones(74, 120, 24, False)]

STUCK = ((0, 1), ((0, "a", 1), (1, "b", 0)), (0, 1))
DEEPER = ((0, 1, 2), ((0, "d", 1), (1, "a", 2), (2, "b", 1)), (1, 2))
DOORS = ((0, 1, 2), ((0, "a", 1), (0, "c", 2), (1, "b", 0), (1, "d", 2)), (2,))
SMOOTH = ((0, 1), ((0, "a", 1), (0, "b", 0), (1, "a", 1), (1, "b", 0)), (1,))

# Like STAIRS, but b leads from the last state, too, to the last but two: inward, both of the last ones are accepting.
LONG_STAIRS = (STAIRS[0], STAIRS[1][:-1] + ((39, "b", 37), (39, "d", 38)), STAIRS[2])


@lru_cache(maxsize=None)
def told_stuck(system):
    return (told_orbits(system) == [system[0]] and told_round(system, system[0])
            and not told_consistent(system))


@lru_cache(maxsize=None)
def told_ways(system):
    """The systems to which one goes inward, with the orbits that tell them."""
    rest = told_cut(system)
    return [(orbit, told_inner(rest, orbit)) for orbit in told_orbits(rest) if told_round(rest, orbit)]


@lru_cache(maxsize=None)
def told_unlike(system):
    """All pairs of gates of one orbit of the cut that are not alike, in either sequence."""
    rest = told_cut(system)
    return [(one, other) for orbit in told_orbits(rest) for one, other in product(told_gates(rest, orbit), repeat=2)
            if not told_alike(rest, one, other)]


def told_smooth(system):
    return (not told_stuck(system) and not told_unlike(system)
            and all(told_smooth(inner) for _, inner in told_ways(system)))


def told_simple(system):
    """The simple paths with the systems behind them."""
    found = [((), system)]
    if not told_stuck(system):
        for orbit, inner in told_ways(system):
            found += [((orbit[0],) + path, last) for path, last in told_simple(inner)]
    return found


def told_reasons(system):
    """All reasons with a simple path, the first one first."""
    found = []
    for path, last in told_simple(system):
        if told_stuck(last):
            found.append((path, 0, (), ("stuck",)))
        for one, other in told_unlike(last):
            if one < other:
                found.append((path, 1, (told_orbit(told_cut(last), one)[0], one, other), ("gates", one, other)))
    return [(path, trouble) for path, _, _, trouble in sorted(found)]


def told_behind(system, path):
    """The system behind the path, or None if it is no path."""
    for state in path:
        systems = [inner for orbit, inner in told_ways(system) if state in orbit]
        if not systems:
            return None
        system = systems[0]
    return system


def random_path(numbers, system, most):
    """A path told by whichever states, as far as one can go."""
    path = ()
    for _ in range(numbers.randint(0, most)):
        ways = told_ways(system)
        if not ways:
            break
        orbit, system = numbers.choice(ways)
        path += (numbers.choice(orbit),)
    return path


class Inward(unittest.TestCase):
    def test_each_state(self):
        told = {True: 0, False: 0}
        for system in SYSTEMS:
            inner = {state: last for orbit, last in told_ways(system) for state in orbit}
            for state in system[0]:
                told[state in inner] += 1
                if state in inner:
                    self.assertEqual(inward(system, state), inner[state], (system, state))
                    self.assertIs(is_system(inner[state]), True)
                else:
                    with self.assertRaises(NotPossible) as caught:
                        inward(system, state)
                    self.assertEqual(caught.exception.why, "still")
        self.assertTrue(min(told.values()) > 500)

    def test_by_the_orbit_in_the_cut(self):
        # The orbit of both states goes round, but in the cut that of 1 does not.
        self.assertEqual(inward(SMOOTH, 0), ((0,), ((0, "b", 0),), (0,)))
        with self.assertRaises(NotPossible):
            inward(SMOOTH, 1)
        self.assertEqual(inward(STUCK, 0), STUCK)
        self.assertEqual(inward(STUCK, 1), STUCK)
        self.assertEqual(inward(DEEPER, 2), ((1, 2), DEEPER[1][1:], (1, 2)))
        self.assertEqual(inward(DOORS, 1), ((0, 1), ((0, "a", 1), (1, "b", 0)), (0, 1)))

    def test_fewer_moves_or_states(self):
        for system in SYSTEMS:
            if not is_stuck(system):
                for _, inner in told_ways(system):
                    self.assertTrue(len(inner[1]) < len(system[1]) or len(inner[0]) < len(system[0]))

    def test_large(self):
        inner = STAIRS
        for state in range(1, 39):
            inner = inward(inner, state)
            self.assertEqual((inner[0], inner[2]), (tuple(range(state, 40)), (state,)))
        with self.assertRaises(NotPossible):
            inward(inner, 39)


class Paths(unittest.TestCase):
    def test_told_by_whichever_states(self):
        numbers = random.Random(75)
        for system in SYSTEMS:
            for _ in range(3):
                path = random_path(numbers, system, 6)
                self.assertIs(is_path(system, path), True, (system, path))
                self.assertEqual(behind(system, path), told_behind(system, path))
                for at in range(len(path) + 1):
                    # A wrong state at the beginning, in the middle or at the end.
                    for state in numbers.sample(range(-1, 41), 3) + [numbers.choice(system[0])]:
                        for other in (path[:at] + (state,) + path[at:], path[:at] + (state,) + path[at + 1:]):
                            last = told_behind(system, other)
                            self.assertIs(is_path(system, other), last is not None, (system, other))
                            if last is not None:
                                self.assertEqual(behind(system, other), last)
                            else:
                                with self.assertRaises(BadValue) as caught:
                                    behind(system, other)
                                self.assertEqual(caught.exception.name, "path")

    def test_empty_path(self):
        for system in SYSTEMS[::10] + [STUCK, SMOOTH, ((3,), (), ())]:
            self.assertIs(is_path(system, ()), True)
            self.assertEqual(behind(system, ()), system)

    def test_lengths(self):
        for many in (1, 2, 39, 40):
            for path in ((0,) * many, (1,) * many, (0, 1) * (many // 2)):
                self.assertIs(is_path(STUCK, path), True)
                self.assertEqual(behind(STUCK, path), STUCK)
        for many in (41, 42, 100000):
            self.assertIs(is_path(STUCK, (0,) * many), False)
            with self.assertRaises(BadValue):
                behind(STUCK, (1,) * many)
        self.assertIs(is_path(STAIRS, tuple(range(1, 39))), True)
        self.assertIs(is_path(STAIRS, tuple(range(1, 40))), False)
        self.assertIs(is_path(STAIRS, (39,) * 38), True)
        self.assertIs(is_path(STAIRS, (39,) * 39), False)
        self.assertEqual(behind(STAIRS, (39,) * 38)[0], (38, 39))
        # 38 times inward one comes to a stuck system, and goes on in it.
        last = behind(LONG_STAIRS, tuple(range(1, 39)))
        self.assertIs(is_stuck(last), True)
        self.assertEqual(behind(LONG_STAIRS, (39,) * 40), last)
        self.assertIs(is_path(LONG_STAIRS, (39,) * 41), False)

    def test_one_behind_the_other(self):
        numbers = random.Random(76)
        for system in SYSTEMS:
            path = random_path(numbers, system, 6)
            for at in range(len(path) + 1):
                self.assertEqual(behind(behind(system, path[:at]), path[at:]), behind(system, path))

    def test_other_values(self):
        for value in (None, True, False, 0, 1, "", "0", [], [0], [0, 1], {}, {0: 0}, (None,), (True,), (False,), (0, True),
                      (False, 1), ("0",), ("",), ((0,),), ((),), (0.0,), (0, 1.0), (-1,), (2,), (0, 2), (10 ** 30,),
                      (0, -(10 ** 30)), (0, None), (None, 0), b"", b"\x00", 1.5, deep_list(1000), deep_tuple(1000),
                      deep_row(1000), (deep_row(1000),), (0, deep_list(1000))):
            self.assertIs(is_path(STUCK, value), False, value)
            with self.assertRaises(BadValue) as caught:
                behind(STUCK, value)
            self.assertEqual(caught.exception.name, "path")
        for at, value in enumerate(STRANGE):
            with self.subTest(at=at):
                self.assertIs(is_path(STUCK, value), False)
                self.assertIs(is_path(STUCK, (0, value)), isinstance(value, int) and value in (0, 1)
                              and not isinstance(value, bool))


class StuckAndSmooth(unittest.TestCase):
    def test_is_stuck(self):
        told = {True: 0, False: 0}
        for system in SYSTEMS:
            for each in [system] + [inner for _, inner in told_ways(system)]:
                stuck = told_stuck(each)
                self.assertIs(is_stuck(each), stuck, each)
                told[stuck] += 1
                if stuck:
                    self.assertTrue(all(inward(each, state) == each for state in each[0]))
        self.assertTrue(min(told.values()) > 100, told)

    def test_some(self):
        for system, stuck in ((STUCK, True), (DEEPER, False), (DOORS, False), (SMOOTH, False), (STAIRS, False),
                              (((0,), (), ()), False), (((0,), ((0, "a", 0),), ()), True),
                              (((0,), ((0, "a", 0),), (0,)), False), (((0, 1), (), ()), False),
                              (((0, 1), ((0, "a", 1), (1, "a", 0)), (0,)), False),
                              (((0, 1), ((0, "a", 1), (1, "a", 0)), (0, 1)), True),
                              (((0, 1), ((0, "a", 1), (1, "a", 0)), ()), True),
                              (((0, 1), ((0, "a", 1), (1, "a", 1)), (0, 1)), False),
                              (((0, 1), ((0, "a", 0), (1, "a", 1)), (0, 1)), False)):
            self.assertIs(is_stuck(system), stuck, system)

    def test_is_smooth(self):
        told = {True: 0, False: 0}
        for system in SYSTEMS:
            smooth = told_smooth(system)
            self.assertIs(is_smooth(system), smooth, system)
            told[smooth] += 1
        self.assertTrue(min(told.values()) > 100, told)
        self.assertIs(is_smooth(STAIRS), True)
        self.assertIs(is_smooth(LONG_STAIRS), False)

    def test_behind_paths_of_smooth_systems(self):
        numbers = random.Random(81)
        for system in SYSTEMS:
            if is_smooth(system):
                self.assertIs(is_smooth(behind(system, random_path(numbers, system, 9))), True)

    def test_sure_expressions_are_smooth(self):
        sure = 0
        for expression in all_expressions(5, ["a", "b"]) + larger_ones(80, 900, 24, False):
            if is_sure(expression):
                sure += 1
                self.assertIs(is_smooth(system_of(automaton_of(expression))), True, expression)
        self.assertGreater(sure, 300)


class SimplePaths(unittest.TestCase):
    def test_simple_paths(self):
        longest = 0
        for system in SYSTEMS:
            told = [path for path, _ in told_simple(system)]
            self.assertEqual(simple_paths(system), sorted(told), system)
            self.assertEqual(len(set(told)), len(told))
            longest = max(longest, max(len(path) for path in told))
            self.assertTrue(all(is_path(system, path) for path in told))
            self.assertTrue(all(len(path) <= len(system[1]) + 1 for path in told))
        self.assertGreater(longest, 5)

    def test_some(self):
        self.assertEqual(simple_paths(STUCK), [()])
        self.assertEqual(simple_paths(SMOOTH), [(), (0,)])
        self.assertEqual(simple_paths(DEEPER), [(), (1,)])
        self.assertEqual(simple_paths(((0, 1, 2), ((0, "a", 0), (1, "a", 1), (2, "b", 1)), ())), [(), (0,), (1,)])
        self.assertEqual(simple_paths(((4,), (), (4,))), [()])
        self.assertEqual(simple_paths(STAIRS), [tuple(range(1, many)) for many in range(1, 40)])
        self.assertEqual(simple_paths(LONG_STAIRS), [tuple(range(1, many)) for many in range(1, 40)])

    def test_order(self):
        moves = [(0, "c", 3), (3, "c", 6)]
        for low in (0, 3, 6):
            moves += [(low, "a", low + 1), (low + 1, "a", low + 2), (low + 1, "b", low), (low + 2, "b", low + 1)]
        system = (tuple(range(9)), tuple(sorted(moves)), (6,))
        paths = simple_paths(system)
        self.assertEqual(paths, sorted(path for path, _ in told_simple(system)))
        self.assertEqual(paths[0], ())
        self.assertTrue({path[0] for path in paths if path} >= {0, 3})

    def test_new_lists(self):
        for system in (STUCK, STAIRS, SMOOTH):
            found = simple_paths(system)
            self.assertIs(type(found), list)
            self.assertTrue(all(type(path) is tuple for path in found))
            before = list(found)
            found.append((9,))
            found.reverse()
            self.assertEqual(simple_paths(system), before)
            self.assertIsNot(simple_paths(system), simple_paths(system))


class FirstReason(unittest.TestCase):
    def test_first_reason(self):
        told = {}
        for system in SYSTEMS:
            reasons = told_reasons(system)
            first = first_reason(system)
            self.assertEqual(first, reasons[0] if reasons else None, system)
            self.assertIs(first is None, is_smooth(system))
            for reason in reasons:
                self.assertIs(accepts_reason(system, reason), True)
            kind = (len(first[0]) if len(first[0]) < 2 else 2, first[1][0]) if first else None
            told[kind] = told.get(kind, 0) + 1
        self.assertEqual(len(told), 7, told)

    def test_some(self):
        self.assertEqual(first_reason(STUCK), ((), ("stuck",)))
        self.assertEqual(first_reason(DEEPER), ((1,), ("stuck",)))
        self.assertEqual(first_reason(DOORS), ((), ("gates", 0, 1)))
        self.assertIsNone(first_reason(SMOOTH))
        self.assertIsNone(first_reason(STAIRS))
        self.assertEqual(first_reason(LONG_STAIRS), (tuple(range(1, 39)), ("stuck",)))

    def test_a_beginning_of_a_path_comes_first(self):
        # There are reasons behind (), (0,) and (5,); without the first ones the next ones are told.
        moves = ((0, "a", 1), (1, "b", 0), (5, "a", 6), (6, "b", 5))
        states = (0, 1, 5, 6, 9)
        system = (states, moves + ((6, "c", 9),), (1, 5, 9))
        self.assertEqual(told_reasons(system)[0], ((), ("gates", 5, 6)))
        self.assertEqual(first_reason(system), ((), ("gates", 5, 6)))
        system = (states, moves, (0, 1, 5, 6))
        self.assertEqual(first_reason(system), ((0,), ("stuck",)))
        system = (states, moves, (1, 5, 6))
        self.assertEqual(first_reason(system), ((5,), ("stuck",)))
        # A stuck system comes ahead of its unlike gates; there are no such gates, as no move leads out of it.
        self.assertEqual(first_reason(STUCK)[1], ("stuck",))

    def test_kinds(self):
        for system in (STUCK, DEEPER, DOORS):
            reason = first_reason(system)
            self.assertEqual([type(each) for each in reason], [tuple, tuple])
            self.assertIs(type(reason), tuple)


class AcceptsReason(unittest.TestCase):
    def told(self, system, path, trouble):
        last = told_behind(system, path) if len(path) <= 40 else None
        if last is None:
            return False
        if trouble == ("stuck",):
            return told_stuck(last)
        return trouble[1:] in told_unlike(last)

    def test_all_paths_and_gates(self):
        accepted = 0
        for system in SYSTEMS[::12] + [STUCK, DEEPER, DOORS, SMOOTH]:
            paths = [path for many in range(3) for path in product(system[0][:4], repeat=many)]
            pairs = list(product(system[0][:6] + (-1, 40), repeat=2))
            for path in paths:
                for trouble in [("stuck",)] + [("gates",) + pair for pair in pairs]:
                    told = self.told(system, path, trouble)
                    self.assertIs(accepts_reason(system, (path, trouble)), told, (system, path, trouble))
                    # Whoever wrote it: what is accepted is so.
                    self.assertTrue(not told or not is_smooth(system))
                    accepted += told
        self.assertGreater(accepted, 100)

    def test_paths_told_by_whichever_states_and_longer_ones(self):
        numbers = random.Random(78)
        told = 0
        for system in SYSTEMS:
            for _ in range(5):
                path = random_path(numbers, system, numbers.choice((0, 1, 2, 40)))
                last = told_behind(system, path)
                self.assertIs(accepts_reason(system, (path, ("stuck",))), told_stuck(last))
                for one, other in told_unlike(last):
                    told += 1
                    self.assertIs(accepts_reason(system, (path, ("gates", one, other))), True)
                    self.assertIs(accepts_reason(system, (path, ("gates", other, one))), True)
        self.assertGreater(told, 100)
        for path in ((0,), (1,), (0, 1, 1, 0), (1,) * 40):
            self.assertIs(accepts_reason(STUCK, (path, ("stuck",))), True)
        for path in ((1,) * 41, (2,), (0, 2), (-1,), (True,), [0], (False,), 0, None, "0", (0.0,), ((0,),)):
            self.assertIs(accepts_reason(STUCK, (path, ("stuck",))), False)
        for path in ((1,), (2,), (2, 1), (1, 2, 2)):
            self.assertIs(accepts_reason(DEEPER, (path, ("stuck",))), True)
        for path in ((), (0,), (1, 0)):
            self.assertIs(accepts_reason(DEEPER, (path, ("stuck",))), False)

    def test_gates(self):
        # Alike are 0 and 1, and 2 and 3; in another orbit are 6 and 7, and 8 is no gate.
        moves = ((0, "a", 1), (0, "c", 9), (1, "a", 2), (1, "c", 9), (2, "a", 3), (2, "d", 9), (3, "a", 8), (3, "d", 9),
                 (6, "a", 7), (6, "b", 9), (7, "a", 6), (8, "a", 0))
        system = ((0, 1, 2, 3, 6, 7, 8, 9), moves, (7, 9))
        unlike = {(0, 2), (0, 3), (1, 2), (1, 3), (6, 7)}
        self.assertEqual(first_reason(system), ((), ("gates", 0, 2)))
        for one, other in product(range(-1, 11), repeat=2):
            told = (one, other) in unlike or (other, one) in unlike
            self.assertIs(accepts_reason(system, ((), ("gates", one, other))), told, (one, other))

    def test_gates_in_the_cut(self):
        # By a letter that is consistent no exit leads out in the cut.
        system = ((0, 1, 2), ((0, "a", 1), (1, "b", 0), (1, "c", 2), (2, "d", 2)), (1,))
        self.assertEqual(told_consistent(system), (("b", 0), ("c", 2)))
        for one, other in product((0, 1, 2), repeat=2):
            self.assertIs(accepts_reason(system, ((), ("gates", one, other))), False)

    def test_other_forms(self):
        for value in (((), ("stuck",)), ((0,), ("stuck",))):
            self.assertIs(accepts_reason(STUCK, value), True)
        for value in ([(), ("stuck",)], ([], ("stuck",)), ((), ["stuck"]), ((), "stuck"), ((), ("stuck", None)),
                      ((), ("stuck", 0, 1)), ((), ("stuck", ())), ((), ()), ((),), (("stuck",),), ("stuck",),
                      ((), ("stuck",), ()), (("stuck",), ()), ((), ("Stuck",)), ((), ("",)), ((), (None,)), ((), (True,)),
                      ((), (("stuck",),)), ((), ("gates",)), ((), ("s", "t", "u")), ((), {"stuck": 1}), ((), None),
                      (None, ("stuck",)), ((), True), ("", ("stuck",)), ((), (b"stuck",)), ((), (["stuck"],)),
                      ((), deep_row(1000)), (deep_row(1000), ("stuck",)), ((), (deep_tuple(1000),))):
            self.assertIs(accepts_reason(STUCK, value), False, value)
        for value in (((), ("gates", 0, 1)), ((), ("gates", 1, 0))):
            self.assertIs(accepts_reason(DOORS, value), True)
        for value in (((), ["gates", 0, 1]), ((), ("gates", 0)), ((), ("gates", 0, 1, 2)), ((), ("gates", (0, 1))),
                      ((), ("gates", False, True)), ((), ("gates", 0, True)), ((), ("gates", False, 1)),
                      ((), ("gates", 0.0, 1)), ((), ("gates", "0", "1")), ((), ("gates", None, 1)),
                      ((), ("gates", 0, None)), ((), ("gates", [0], 1)), ((), ("gates", 0, (1,))),
                      ((), ("gate", 0, 1)), ((), ("stuck", 0, 1)), ((), (0, 1, "gates")), ((), ("gates", 0, 10 ** 30)),
                      ((), ("gates", 0, deep_row(1000))), ((), ("gates", 0, 0)), ((), ("gates", 0, 2)),
                      ((), (None, 0, 1)), ((), ("gates", deep_list(1000), 1)), [(), ("gates", 0, 1)]):
            self.assertIs(accepts_reason(DOORS, value), False, value)

    def test_strange_values(self):
        for system in (STUCK, DEEPER, DOORS, SMOOTH):
            for at, value in enumerate(STRANGE + [deep_list(5000), deep_tuple(5000), deep_row(5000)]):
                with self.subTest(at=at):
                    self.assertIs(accepts_reason(system, value), False)
                    self.assertIs(accepts_reason(system, (value, ("stuck",))), False)
                    self.assertIs(accepts_reason(system, ((), value)), False)
                    self.assertIs(accepts_reason(system, ((), (value,))), False)
                    self.assertIs(accepts_reason(system, (value, value)), False)

    def test_nothing_is_changed(self):
        value = [[0], ["gates", 0, 1]]
        accepts_reason(DOORS, value)
        self.assertEqual(value, [[0], ["gates", 0, 1]])


class Wrong(unittest.TestCase):
    def test_bad_systems(self):
        wrong = {"system": BAD_SYSTEMS + [deep_row(1000)]}
        for function in (is_stuck, is_smooth, simple_paths, first_reason):
            assert_bad_values(self, function, ["system"], {}, wrong)
        for value in ((), ((), ("stuck",)), None, deep_row(1000)):
            for judge in (is_path, accepts_reason):
                assert_bad_values(self, lambda system: judge(system, value), ["system"], {}, wrong)

    def test_bad_states_and_paths(self):
        good = {"system": ((0, 5, 39), ((0, "a", 5), (5, "a", 0)), (0, 5)), "state": 0, "path": (0, 5)}
        wrong = {"system": BAD_SYSTEMS + [deep_row(1000)], "state": NO_STATES + [deep_list(1000), deep_row(1000)],
                 "path": [None, True, 0, "", [], [0], (1,), (39,), (0, 39), (True,), (0, None), (0,) * 41]}
        assert_bad_values(self, inward, ["system", "state"], good, wrong)
        assert_bad_values(self, behind, ["system", "path"], good, wrong)
        with self.assertRaises(NotPossible) as caught:
            inward(good["system"], 39)
        self.assertEqual(caught.exception.why, "still")
