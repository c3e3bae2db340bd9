"""Expressions without a doubt, made from the automaton alone."""

from nodoubt.automata import NO_STATE, automaton_from, small_machine_of
from nodoubt.errors import TooLarge
from nodoubt.expressions import LONG_BOUNDS, check_expression, check_word, is_long
from nodoubt.inward import find_reason, inner_of
from nodoubt.orbits import consistent_of, cut_of, exits_of, gates_of, is_round, orbits_of, system_of
from nodoubt.simple import join_of, opened_parts, row_of


class Layer:
    """The cut of a system, with all that expressions are made from.

    again has the consistent letters of the system, each with its state. The dicts tell of each state's orbit in the
    cut: inner has the Layer inside it, or None if it does not go round, ways has the exits of its gates, and ending
    True if these are accepting. counts has the numbers of places that were already counted.
    """

    def __init__(self, system):
        rest = cut_of(system)
        self.again = consistent_of(system)
        self.inner = {}
        self.ways = {}
        self.ending = {}
        self.counts = {}
        for orbit in orbits_of(rest):
            # All gates of an orbit are alike, so the first one tells of all.
            gate = gates_of(rest, orbit)[0]
            inside = Layer(inner_of(rest, orbit)) if is_round(rest, orbit) else None
            for state in orbit:
                self.inner[state] = inside
                self.ways[state] = exits_of(rest, orbit, gate)
                self.ending[state] = gate in rest[2]


def made(expression):
    """Returns the made expression, or None if there is a reason against it."""
    check_expression(expression)
    layer = _layer_of(small_machine_of(expression))
    return None if layer is None else made_in_bounds(layer, 0)


def count_made(expression):
    """Returns the number of the places of the made expression, or None if there is a reason against it."""
    check_expression(expression)
    layer = _layer_of(small_machine_of(expression))
    return None if layer is None else _count_made(layer, 0)


def made_behind(expression, word):
    """Returns what is made behind the word, or None if there is a reason against it or the word is not live."""
    check_expression(expression)
    check_word(word)
    machine = small_machine_of(expression)
    layer = _layer_of(machine)
    state = machine.run(0, word)
    return None if layer is None or state == NO_STATE else made_in_bounds(layer, state)


def _layer_of(machine):
    """Returns the Layer of the system of the automaton, or None if there is a reason that it is not smooth."""
    system = system_of(automaton_from(machine))
    return None if find_reason(system) is not None else Layer(system)


def made_in_bounds(layer, state):
    """Returns what is made from the state, or raises TooLarge if it is no long expression."""
    # Only counted at first, as it could be far too long to be made.
    if _count_made(layer, state) > LONG_BOUNDS[0]:
        raise TooLarge("places")
    expression = _made(layer, state)
    if not is_long(expression):
        raise TooLarge("places")
    return expression


def _made(layer, state):
    body = _body(layer, state)
    if layer.again == ():
        return body
    return join_of([body, ("many", _branches(layer, layer.again))])


def _body(layer, state):
    pieces = []
    if layer.inner[state] is not None:
        pieces.append(_made(layer.inner[state], state))
    if layer.ways[state]:
        branches = _branches(layer, layer.ways[state])
        pieces.append(("maybe", branches) if layer.ending[state] else branches)
    return join_of(pieces)


def _branches(layer, pairs):
    """Returns the branches that are told by pairs of a letter and a state."""
    parts = [join_of([row_of("or", letters), _body(layer, end)]) for end, letters in _letters_by_state(pairs).items()]
    return row_of("or", opened_parts("or", parts))


def _letters_by_state(pairs):
    """Returns a dict from the states to the lists of their letters, in the order of the first ones."""
    found = {}
    for letter, end in pairs:
        found.setdefault(end, []).append(letter)
    return found


def _count_made(layer, state):
    return _count_body(layer, state) + _count_branches(layer, layer.again)


def _count_body(layer, state):
    if state not in layer.counts:
        many = _count_branches(layer, layer.ways[state])
        if layer.inner[state] is not None:
            many += _count_made(layer.inner[state], state)
        layer.counts[state] = many
    return layer.counts[state]


def _count_branches(layer, pairs):
    return sum([len(letters) + _count_body(layer, end) for end, letters in _letters_by_state(pairs).items()])
