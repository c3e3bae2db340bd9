"""Going inward from a system to the orbits of its cut, and reasons that a system is not smooth."""

from nodoubt.errors import BadValue, NotPossible
from nodoubt.orbits import (
    are_alike, check_state, check_system, consistent_of, cut_of, gates_of, is_round, is_state, orbit_at, orbits_of,
    unlike_gates_of,
)

MOST_PATH_STATES = 40


def inward(system, state):
    """Returns the system to which one goes inward to the orbit of the state."""
    check_system(system)
    check_state(system, state)
    inner = _entered(system, state)
    if inner is None:
        raise NotPossible("still")
    return inner


def _entered(system, state):
    """Returns the system to which one goes inward, or None if the orbit in the cut does not go round."""
    rest = cut_of(system)
    orbit = orbit_at(rest, state)
    return inner_of(rest, orbit) if is_round(rest, orbit) else None


def inner_of(system, orbit):
    """Returns the states of the orbit and the moves between them, with its gates as the accepting states."""
    moves = [move for move in system[1] if move[0] in orbit and move[2] in orbit]
    return (orbit, tuple(moves), gates_of(system, orbit))


def is_path(system, value):
    """Returns True if the value is a path of the system."""
    check_system(system)
    return _behind(system, value) is not None


def behind(system, path):
    """Returns the system behind the path."""
    check_system(system)
    last = _behind(system, path)
    if last is None:
        raise BadValue("path")
    return last


def _behind(system, value):
    """Returns the system behind the value, or None if this is no path."""
    if not isinstance(value, tuple) or len(value) > MOST_PATH_STATES:
        return None
    for state in value:
        if not is_state(system, state):
            return None
        system = _entered(system, state)
        if system is None:
            return None
    return system


def is_stuck(system):
    """Returns True if the system is stuck."""
    check_system(system)
    return _is_stuck(system)


def _is_stuck(system):
    states = system[0]
    return orbits_of(system) == [states] and is_round(system, states) and consistent_of(system) == ()


def is_smooth(system):
    """Returns True if the system is smooth."""
    check_system(system)
    return find_reason(system) is None


def simple_paths(system):
    """Returns the list of the simple paths, in order."""
    check_system(system)
    return [path for path, _ in _systems_inward(system)]


def _systems_inward(system):
    """Returns the list of the simple paths, in order, each with the system behind it."""
    found = []
    waiting = [((), system)]
    while waiting:
        path, latest = waiting.pop()
        found.append((path, latest))
        if not _is_stuck(latest):
            rest = cut_of(latest)
            # What was put in last is taken out first, so the least state comes last.
            for orbit in reversed(orbits_of(rest)):
                if is_round(rest, orbit):
                    waiting.append((path + (orbit[0],), inner_of(rest, orbit)))
    return found


def first_reason(system):
    """Returns the first reason that the system is not smooth, or None if it is smooth."""
    check_system(system)
    return find_reason(system)


def find_reason(system):
    """Returns the first reason that a system is not smooth, or None if it is smooth."""
    return _first_of(_systems_inward(system))


def find_shortest_reason(system):
    """Returns the first one of the reasons with the shortest simple paths, or None if the system is smooth."""
    return _first_of(sorted(_systems_inward(system), key=lambda found: (len(found[0]), found[0])))


def _first_of(systems):
    """Returns the reason with the first of the paths, each with the system behind it, or None if there is none."""
    for path, latest in systems:
        if _is_stuck(latest):
            return (path, ("stuck",))
        pair = unlike_gates_of(cut_of(latest))
        if pair is not None:
            return (path, ("gates",) + pair)
    return None


def accepts_reason(system, value):
    """Returns True if the value is a reason that the system is not smooth."""
    check_system(system)
    if not isinstance(value, tuple) or len(value) != 2:
        return False
    path, trouble = value
    last = _behind(system, path)
    if last is None or not isinstance(trouble, tuple):
        return False
    if len(trouble) == 1:
        return trouble[0] == "stuck" and _is_stuck(last)
    return len(trouble) == 3 and trouble[0] == "gates" and _are_unlike(last, trouble[1], trouble[2])


def _are_unlike(system, one, other):
    """Returns True if the two are gates of one orbit of the cut of the system, and not alike."""
    if not is_state(system, one) or not is_state(system, other):
        return False
    rest = cut_of(system)
    orbit = orbit_at(rest, one)
    found = gates_of(rest, orbit)
    return one in found and other in found and not are_alike(rest, orbit, one, other)
