"""Points 62 to 71: systems, their orbits, gates and cuts."""

import random
import unittest
from itertools import permutations

from nodoubt.automata import automaton_of
from nodoubt.orbits import (
    consistent, cut, exits, gates, goes_round, is_system, orbits, reached, system_of, unlike_gates,
)
from nodoubt.simple import greatest_length
from tests.helper import (
    LARGE, LETTERS, STAIRS, STRANGE, all_expressions, assert_bad_values, deep_list, deep_row, deep_tuple, larger_ones,
    random_system, told_alike, told_consistent, told_cut, told_exits, told_gates, told_orbit, told_orbits,
    told_reached, told_round, told_system,
)

NUMBERS = random.Random(62)
SYSTEMS = [random_system(NUMBERS, most, letters) for most, letters in [
    (3, "ab"), (6, "ab"), (12, "ad"), (6, "abcd"), (12, "abc"), (8, "abcd")] for _ in range(90)]
SYSTEMS += [told_system(each) for each in larger_ones(63, 120, 24, False)]
LARGE_SYSTEMS = [random_system(NUMBERS, 40, letters) for letters in ("a", "ab", "abcd") for _ in range(6)]

SOME = ((0, 1, 5), ((0, "a", 1), (1, "b", 0), (1, "d", 5), (5, "c", 5)), (1, 5))

BAD_SYSTEMS = [
    None, True, False, 0, "", "abc", (), [], {}, (None, None, None), (True, True, True), ("", "", ""),
    ((), (), ()),
    ((0,), ()),
    ((0,), (), (), ()),
    [(0,), (), ()],
    ([0], (), ()),
    ((0,), [], ()),
    ((0,), (), []),
    ((0,), None, ()),
    (0, (), ()),
    ((0,), (), 0),
    ((0,), (), (1,)),
    ((1,), (), (0,)),
    ((-1,), (), ()),
    ((-1, 0), (), ()),
    ((40,), (), ()),
    ((0, 40), (), ()),
    (tuple(range(41)), (), ()),
    (tuple(range(1, 41)), (), ()),
    (tuple(range(100000)), (), ()),
    ((1, 0), (), ()),
    ((0, 0), (), ()),
    ((0, 1, 1), (), ()),
    ((0, 2, 1), (), ()),
    ((True,), (), ()),
    ((False,), (), ()),
    ((0, True), (), ()),
    ((0, 1), (), (True,)),
    ((0, 1), (), (False,)),
    ((0, 1), (), (1, 0)),
    ((0, 1), (), (1, 1)),
    ((0, 1), (), (0, 0, 1)),
    ((0, 1), (), (0, 1, 2)),
    ((0, 1), (), (None,)),
    ((0, 1), (), ("0",)),
    ((0, 1), (), ((0,),)),
    ((0.0,), (), ()),
    ((0, 1.0), (), ()),
    ((0,), (), (0.0,)),
    (("0",), (), ()),
    ((None,), (), ()),
    (((0,),), (), ()),
    ((10 ** 30,), (), ()),
    ((0, 1), ((0, "a"),), ()),
    ((0, 1), ((0, "a", 1, 1),), ()),
    ((0, 1), ([0, "a", 1],), ()),
    ((0, 1), (0, "a", 1), ()),
    ((0, 1), (None,), ()),
    ((0, 1), ((0, "a", 2),), ()),
    ((0, 1), ((2, "a", 0),), ()),
    ((0, 1), ((0, "a", -1),), ()),
    ((0, 2), ((0, "a", 1),), ()),
    ((0, 2), ((1, "a", 0),), ()),
    ((0, 1), ((False, "a", 1),), ()),
    ((0, 1), ((0, "a", True),), ()),
    ((0, 1), ((0.0, "a", 1),), ()),
    ((0, 1), ((0, "a", None),), ()),
    ((0, 1), ((0, "a", (1,)),), ()),
    ((0, 1), ((0, "a", [1]),), ()),
    ((0, 1), ((0, "e", 1),), ()),
    ((0, 1), ((0, "", 1),), ()),
    ((0, 1), ((0, "ab", 1),), ()),
    ((0, 1), ((0, "A", 1),), ()),
    ((0, 1), ((0, 0, 1),), ()),
    ((0, 1), ((0, None, 1),), ()),
    ((0, 1), ((0, ("a",), 1),), ()),
    ((0, 1), ((0, ["a"], 1),), ()),
    ((0, 1), ((1, "a", 0), (0, "a", 1)), ()),
    ((0, 1), ((0, "b", 0), (0, "a", 1)), ()),
    ((0, 1), ((0, "a", 0), (0, "a", 1)), ()),
    ((0, 1), ((0, "a", 1), (0, "a", 0)), ()),
    ((0, 1), ((0, "a", 1), (0, "a", 1)), ()),
    ((0, 1), ((0, "a", 1),) * 100000, ()),
]

NO_STATES = [None, True, False, -1, 1, 4, 40, 10 ** 30, -(10 ** 30), "", "0", "a", (), (0,), [], [0], 0.0, 0.5, {}]


class IsSystem(unittest.TestCase):
    def test_systems(self):
        for system in SYSTEMS + LARGE_SYSTEMS + [SOME, STAIRS]:
            self.assertIs(is_system(system), True, system)
        for system in (((0,), (), ()), ((39,), (), (39,)), ((0, 39), ((0, "d", 39), (39, "a", 0)), (0, 39)),
                       (tuple(range(40)), (), tuple(range(40))), ((7,), tuple((7, letter, 7) for letter in LETTERS), ()),
                       ((0, 1), ((0, "a", 1), (0, "b", 1), (1, "a", 1)), (1,))):
            self.assertIs(is_system(system), True, system)

    def test_bad_ones(self):
        for at, value in enumerate(BAD_SYSTEMS + [deep_list(1000), deep_tuple(1000), deep_row(1000)]):
            with self.subTest(at=at):
                self.assertIs(is_system(value), False)

    def test_strange_values(self):
        for at, value in enumerate(STRANGE + [deep_list(5000), deep_tuple(5000), deep_row(5000)]):
            with self.subTest(at=at):
                self.assertIs(is_system(value), False)
                self.assertIs(is_system((value, (), ())), False)
                self.assertIs(is_system(((0,), value, ())), False)
                self.assertIs(is_system(((0,), (), value)), False)
                self.assertIs(is_system((value, value, value)), False)

    def test_out_of_order(self):
        states, moves, accepting = SOME
        for order in permutations(states):
            self.assertIs(is_system((order, moves, accepting)), order == states)
        for order in permutations(moves):
            self.assertIs(is_system((states, order, accepting)), order == moves)
        self.assertIs(is_system((states, moves, accepting[::-1])), False)
        for move in moves:
            self.assertIs(is_system((states, tuple(sorted(moves + (move,))), accepting)), False)
        for state in states:
            kept = tuple(other for other in states if other != state)
            self.assertIs(is_system((kept, moves, accepting)), False)

    def test_nothing_is_changed(self):
        value = ([0, 1], [[0, "a", 1]], [1])
        is_system(value)
        self.assertEqual(value, ([0, 1], [[0, "a", 1]], [1]))


class SystemOf(unittest.TestCase):
    def test_automata(self):
        for expression in larger_ones(64, 200, 24, False) + [LARGE]:
            system = system_of(automaton_of(expression))
            self.assertEqual(system, told_system(expression))
            self.assertIs(is_system(system), True)

    def test_accepting_states(self):
        moves = ((0, "a", 1), (1, "b", 2))
        for ends, accepting in (((False,) * 3, ()), ((True, False, True), (0, 2)), ((True,) * 3, (0, 1, 2))):
            self.assertEqual(system_of((ends, moves)), ((0, 1, 2), moves, accepting))
        self.assertEqual(system_of(((False,), ())), ((0,), (), ()))

    def test_kinds(self):
        system = system_of(((True,), ((0, "a", 0),)))
        self.assertEqual([type(each) for each in system], [tuple] * 3)
        self.assertEqual(type(system), tuple)

    def test_bad_automata(self):
        wrong = [None, True, 0, "", (), [], ((), ()), ((True,),), ((1,), ()), ([True], ()), ((True,), []),
                 ((True,), ((0, "a", 1),)), ((True,), ((0, "e", 0),)), ((True, True), ((1, "a", 0), (0, "a", 0))),
                 ((True,), ((0, "a", False),)), ((True, True), ((0, "a", 0), (0, "a", 1))), ((True,) * 41, ()),
                 ((False,) * 300, ()), ((True,) * 301, ()), SOME, deep_list(1000), deep_tuple(1000), deep_row(1000)]
        assert_bad_values(self, system_of, ["automaton"], {}, {"automaton": wrong})
        self.assertEqual(system_of(((True,) * 40, ())), (tuple(range(40)), (), tuple(range(40))))


class Orbits(unittest.TestCase):
    def test_reached(self):
        for system in SYSTEMS + LARGE_SYSTEMS + [STAIRS]:
            for state in system[0]:
                self.assertEqual(reached(system, state), told_reached(system, state))

    def test_orbits(self):
        told = {1: 0, 2: 0, 3: 0}
        for system in SYSTEMS + LARGE_SYSTEMS[::3] + [STAIRS]:
            found = orbits(system)
            self.assertEqual(found, told_orbits(system), system)
            self.assertEqual(sorted(state for orbit in found for state in orbit), list(system[0]))
            self.assertEqual(found, sorted(found))
            told[min(len(found), 3)] += 1
            for orbit in found:
                for state in orbit:
                    self.assertIs(goes_round(system, state), told_round(system, orbit))
                    self.assertEqual(gates(system, state), told_gates(system, orbit))
                    self.assertEqual(exits(system, state), told_exits(system, state))
        self.assertTrue(min(told.values()) > 50)

    def test_orbits_of_one_state(self):
        system = ((2, 3, 4), ((2, "a", 3), (3, "b", 3), (3, "c", 4)), ())
        self.assertEqual(orbits(system), [(2,), (3,), (4,)])
        self.assertEqual([goes_round(system, state) for state in (2, 3, 4)], [False, True, False])
        self.assertEqual([gates(system, state) for state in (2, 3, 4)], [(2,), (3,), ()])
        self.assertEqual([exits(system, state) for state in (2, 3, 4)], [(("a", 3),), (("c", 4),), ()])
        self.assertEqual([reached(system, state) for state in (2, 3, 4)], [(2, 3, 4), (3, 4), (4,)])

    def test_left_is_never_entered_again(self):
        for system in SYSTEMS:
            orbit_of = {state: orbit for orbit in orbits(system) for state in orbit}
            for start, _, end in system[1]:
                if orbit_of[start] != orbit_of[end]:
                    self.assertFalse(set(reached(system, end)) & set(orbit_of[start]))

    def test_one_gate_for_each_word_that_leads_out(self):
        numbers = random.Random(65)
        for system in SYSTEMS[::4]:
            to = {(start, letter): end for start, letter, end in system[1]}
            for _ in range(20):
                state = numbers.choice(system[0])
                orbit = told_orbit(system, state)
                left = []
                for _ in range(12):
                    ways = [letter for letter in LETTERS if (state, letter) in to]
                    if not ways:
                        break
                    end = to[state, numbers.choice(ways)]
                    if state in orbit and end not in orbit:
                        left.append(state)
                    state = end
                self.assertLessEqual(len(left), 1)
                self.assertTrue(set(left) <= set(gates(system, orbit[0])))

    def test_large_orbits(self):
        self.assertEqual(orbits(STAIRS), [tuple(range(40))])
        self.assertEqual(orbits((tuple(range(40)), (), ())), [(state,) for state in range(40)])
        ring = (tuple(range(40)), tuple((state, "c", (state + 1) % 40) for state in range(40)), ())
        self.assertEqual(orbits(ring), [tuple(range(40))])
        self.assertEqual((gates(ring, 7), exits(ring, 7), goes_round(ring, 39)), ((), (), True))

    def test_new_lists(self):
        for system in (SOME, ((3,), (), ())):
            found = orbits(system)
            self.assertIs(type(found), list)
            self.assertTrue(all(type(orbit) is tuple for orbit in found))
            before = list(found)
            found.append((1, 2))
            found.reverse()
            self.assertEqual(orbits(system), before)
            self.assertIsNot(orbits(system), orbits(system))

    def test_kinds(self):
        unlike = ((0, 1, 2), ((0, "a", 1), (0, "b", 2), (1, "a", 0)), (1,))
        for told in (reached(SOME, 0), gates(SOME, 0), exits(SOME, 0), exits(SOME, 1), consistent(SOME), cut(SOME),
                     unlike_gates(unlike)):
            self.assertIs(type(told), tuple)
        self.assertIs(type(goes_round(SOME, 0)), bool)

    def test_finitely_many_words(self):
        told = {True: 0, False: 0}
        for expression in all_expressions(5, ["a", "b", ""]) + larger_ones(66, 200, 24, False):
            system = system_of(automaton_of(expression))
            finite = not any(goes_round(system, state) for state in system[0])
            self.assertIs(finite, greatest_length(expression) is not None, expression)
            told[finite] += 1
        self.assertTrue(min(told.values()) > 100)


class Cuts(unittest.TestCase):
    def test_consistent(self):
        told = {}
        for system in SYSTEMS + LARGE_SYSTEMS:
            found = consistent(system)
            self.assertEqual(found, told_consistent(system), system)
            told[len(found)] = told.get(len(found), 0) + 1
        self.assertTrue(len(told) == 5 and min(told.values()) > 4, told)

    def test_cut(self):
        for system in SYSTEMS + LARGE_SYSTEMS:
            found = cut(system)
            self.assertEqual(found, told_cut(system), system)
            self.assertIs(is_system(found), True)
            self.assertEqual((found[0], found[2]), (system[0], system[2]))
            self.assertEqual(consistent(found), ())
            self.assertEqual(cut(found), found)
            for orbit in orbits(found):
                self.assertTrue(any(set(orbit) <= set(other) for other in orbits(system)))

    def test_no_accepting_states(self):
        system = ((0, 1), ((0, "a", 1), (1, "a", 1)), ())
        self.assertEqual((consistent(system), cut(system)), ((), system))

    def test_letters(self):
        states = (0, 1, 2)
        for moves, told in (
            (((0, "a", 2), (1, "a", 2), (2, "b", 0)), (("a", 2),)),
            (((0, "a", 2), (1, "a", 2), (2, "a", 0)), (("a", 2),)),
            (((0, "a", 2), (1, "a", 0)), ()),
            (((0, "a", 2),), ()),
            (((1, "a", 2),), ()),
            (((0, "a", 0), (0, "d", 1), (1, "a", 0), (1, "d", 1)), (("a", 0), ("d", 1))),
            (((0, "a", 0), (1, "b", 0)), ()),
            (((0, "a", 2), (0, "b", 2), (1, "a", 2), (1, "b", 1)), (("a", 2),)),
            (((2, "a", 2),), ()),
            ((), ()),
        ):
            system = (states, moves, (0, 1))
            self.assertEqual(consistent(system), told)
            letters = [letter for letter, _ in told]
            kept = tuple(move for move in moves if move[0] == 2 or move[1] not in letters)
            self.assertEqual(cut(system), (states, kept, (0, 1)))


class UnlikeGates(unittest.TestCase):
    def told(self, system):
        for orbit in told_orbits(system):
            found = told_gates(system, orbit)
            for one in found:
                for other in found:
                    if one < other and not told_alike(system, one, other):
                        return one, other
        return None

    def test_unlike_gates(self):
        told = {True: 0, False: 0}
        for system in SYSTEMS + LARGE_SYSTEMS[::3]:
            found = unlike_gates(system)
            self.assertEqual(found, self.told(system), system)
            told[found is None] += 1
        self.assertTrue(min(told.values()) > 50, told)

    def test_first_orbit_and_first_pair(self):
        ring = [(0, "a", 4), (4, "a", 6), (6, "a", 0), (1, "a", 2), (2, "a", 3), (3, "a", 1)]

        def system(*more, accepting=()):
            return (0, 1, 2, 3, 4, 6, 9), tuple(sorted(ring + list(more))), accepting

        self.assertIsNone(unlike_gates(system()))
        self.assertEqual(unlike_gates(system((4, "b", 9), (6, "b", 1), (1, "c", 9), accepting=(3,))), (4, 6))
        self.assertEqual(unlike_gates(system((4, "b", 9), (6, "b", 9), (1, "c", 9), accepting=(3,))), (1, 3))
        self.assertEqual(unlike_gates(system((0, "b", 9), (4, "b", 9), (6, "c", 9))), (0, 6))
        self.assertEqual(unlike_gates(system((0, "b", 9), (4, "b", 9), (6, "b", 9), accepting=(4,))), (0, 4))
        self.assertEqual(unlike_gates(system((0, "b", 9), accepting=(6,))), (0, 6))
        self.assertIsNone(unlike_gates(system((0, "b", 9), (6, "b", 9), accepting=(0, 6))))
        self.assertEqual(unlike_gates(system((0, "b", 9), (6, "b", 9), (6, "c", 9))), (0, 6))
        # Moves within the orbit are no exits.
        self.assertIsNone(unlike_gates(system((0, "b", 9), (0, "c", 4), (6, "b", 9))))

    def test_gates(self):
        system = ((0, 1, 2), ((0, "a", 1), (0, "c", 2), (1, "b", 0), (1, "d", 2)), (2,))
        self.assertEqual((gates(system, 0), gates(system, 1), gates(system, 2)), ((0, 1), (0, 1), (2,)))
        self.assertEqual((exits(system, 0), exits(system, 1), exits(system, 2)), ((("c", 2),), (("d", 2),), ()))


class Renumbered(unittest.TestCase):
    def test_renumbered(self):
        numbers = random.Random(70)
        for system in SYSTEMS:
            to = dict(zip(system[0], sorted(numbers.sample(range(40), len(system[0])))))
            other = (tuple(to[state] for state in system[0]),
                     tuple((to[start], letter, to[end]) for start, letter, end in system[1]),
                     tuple(to[state] for state in system[2]))
            self.assertEqual(orbits(other), [tuple(to[state] for state in orbit) for orbit in orbits(system)])
            self.assertEqual(consistent(other), tuple((letter, to[end]) for letter, end in consistent(system)))
            self.assertEqual(cut(other)[1], tuple((to[a], letter, to[b]) for a, letter, b in cut(system)[1]))
            pair = unlike_gates(system)
            self.assertEqual(unlike_gates(other), pair and tuple(to[state] for state in pair))
            for state in system[0]:
                self.assertEqual(gates(other, to[state]), tuple(to[gate] for gate in gates(system, state)))
                self.assertEqual(exits(other, to[state]), tuple((by, to[end]) for by, end in exits(system, state)))


class Wrong(unittest.TestCase):
    def test_bad_systems(self):
        wrong = {"system": BAD_SYSTEMS + [deep_row(1000)]}
        for function in (orbits, unlike_gates, consistent, cut):
            assert_bad_values(self, function, ["system"], {}, wrong)

    def test_bad_states(self):
        good = {"system": ((0, 5, 39), ((0, "a", 5),), (5,)), "state": 0}
        wrong = {"system": BAD_SYSTEMS + [deep_row(1000)], "state": NO_STATES + [deep_list(1000), deep_row(1000)]}
        for function in (reached, goes_round, gates, exits):
            assert_bad_values(self, function, ["system", "state"], good, wrong)
            for state in (0, 5, 39):
                function(good["system"], state)
