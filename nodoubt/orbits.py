"""Systems of states and moves, and the orbits in which they go round."""

from nodoubt.automata import MOST_STATES, are_moves, is_automaton_within
from nodoubt.errors import BadValue
from nodoubt.expressions import LETTERS
from nodoubt.steps import is_number


def is_system(value):
    """Returns True if the value is a system."""
    if not isinstance(value, tuple) or len(value) != 3:
        return False
    states, moves, accepting = value
    if not _are_states(states) or states == () or not _are_states(accepting):
        return False
    return all([state in states for state in accepting]) and are_moves(moves, states)


def _are_states(value):
    """Returns True if the value is an ascending tuple of states."""
    if not isinstance(value, tuple):
        return False
    before = -1
    for state in value:
        if not is_number(state, before + 1, MOST_STATES - 1):
            return False
        before = state
    return True


def check_system(value):
    """Raises BadValue if the value is not a system."""
    if not is_system(value):
        raise BadValue("system")


def check_state(system, value):
    """Raises BadValue if the value is not a state of the system."""
    if not is_state(system, value):
        raise BadValue("state")


def is_state(system, value):
    """Returns True if the value is a state of the system."""
    return is_number(value, 0, MOST_STATES - 1) and value in system[0]


def system_of(automaton):
    """Returns the system of the automaton."""
    if not is_automaton_within(automaton, MOST_STATES):
        raise BadValue("automaton")
    ends, moves = automaton
    accepting = [state for state, end in enumerate(ends) if end]
    return (tuple(range(len(ends))), moves, tuple(accepting))


def reached(system, state):
    """Returns the ascending tuple of the states that are reached from the state."""
    check_system(system)
    check_state(system, state)
    return tuple(sorted(_reached_from(_ends_by_state(system), state)))


def _ends_by_state(system):
    """Returns a dict from the states to the lists of the states to which moves lead from them."""
    states, moves, _ = system
    ends = {state: [] for state in states}
    for start, _, end in moves:
        ends[start].append(end)
    return ends


def _reached_from(ends, state):
    """Returns a dict of the states that are reached from the state."""
    found = {state: True}
    waiting = [state]
    while waiting:
        latest = waiting.pop()
        for end in ends[latest]:
            if end not in found:
                found[end] = True
                waiting.append(end)
    return found


def orbits(system):
    """Returns the list of the orbits."""
    check_system(system)
    return orbits_of(system)


def orbits_of(system):
    """Returns the list of the orbits of a system."""
    ends = _ends_by_state(system)
    reach = {state: _reached_from(ends, state) for state in system[0]}
    found = []
    for state in system[0]:
        orbit = tuple([other for other in system[0] if other in reach[state] and state in reach[other]])
        # Each orbit is taken at its least state, which gives their order, too.
        if orbit[0] == state:
            found.append(orbit)
    return found


def orbit_at(system, state):
    """Returns the orbit of the state."""
    ends = _ends_by_state(system)
    reach = _reached_from(ends, state)
    return tuple([other for other in system[0] if other in reach and state in _reached_from(ends, other)])


def goes_round(system, state):
    """Returns True if the orbit of the state goes round."""
    check_system(system)
    check_state(system, state)
    return is_round(system, orbit_at(system, state))


def is_round(system, orbit):
    """Returns True if some move leads from a state of the orbit to a state of it."""
    return any([start in orbit and end in orbit for start, _, end in system[1]])


def gates(system, state):
    """Returns the ascending tuple of the gates of the state's orbit."""
    check_system(system)
    check_state(system, state)
    return gates_of(system, orbit_at(system, state))


def gates_of(system, orbit):
    """Returns the ascending tuple of the gates of the orbit."""
    return tuple([state for state in orbit if state in system[2] or exits_of(system, orbit, state)])


def exits(system, state):
    """Returns the tuple of the exits of the state."""
    check_system(system)
    check_state(system, state)
    return exits_of(system, orbit_at(system, state), state)


def exits_of(system, orbit, state):
    """Returns the tuple of the exits of a state of the orbit."""
    return tuple([(letter, end) for start, letter, end in system[1] if start == state and end not in orbit])


def unlike_gates(system):
    """Returns the first pair of gates of an orbit that are not alike, or None if there is none."""
    check_system(system)
    return unlike_gates_of(system)


def unlike_gates_of(system):
    """Returns the unlike gates of a system, or None if there are none."""
    for orbit in orbits_of(system):
        found = gates_of(system, orbit)
        for at, one in enumerate(found):
            for other in found[at + 1:]:
                if not are_alike(system, orbit, one, other):
                    return (one, other)
    return None


def are_alike(system, orbit, one, other):
    """Returns True if the two gates of the orbit are alike."""
    if (one in system[2]) != (other in system[2]):
        return False
    return exits_of(system, orbit, one) == exits_of(system, orbit, other)


def consistent(system):
    """Returns the tuple of the consistent letters, each with the state to which it leads."""
    check_system(system)
    return consistent_of(system)


def consistent_of(system):
    """Returns the consistent letters of a system, each with the state to which it leads."""
    _, moves, accepting = system
    found = []
    for letter in LETTERS:
        ends = [end for start, other, end in moves if other == letter and start in accepting]
        if len(ends) == len(accepting) and ends and min(ends) == max(ends):
            found.append((letter, ends[0]))
    return tuple(found)


def cut(system):
    """Returns the cut of the system."""
    check_system(system)
    return cut_of(system)


def cut_of(system):
    """Returns the cut of a system."""
    states, moves, accepting = system
    letters = [letter for letter, _ in consistent_of(system)]
    kept = [move for move in moves if move[0] not in accepting or move[1] not in letters]
    return (states, tuple(kept), accepting)
