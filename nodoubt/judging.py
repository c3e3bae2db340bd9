"""Evidence that an automaton is the one of an expression, and its judge."""

from nodoubt.automata import (
    MOST_STATES, NO_STATE, has_last, is_automaton_within, machine_from, sets_of, small_machine_of,
)
from nodoubt.expressions import LETTERS, check_expression, is_text
from nodoubt.steps import by_letter, is_number, is_row, places_behind, steps_of

MOST_TELLING_LETTERS = 60


def automaton_evidence(expression):
    """Returns evidence for the automaton of the expression."""
    check_expression(expression)
    machine = small_machine_of(expression)
    return (_naming(steps_of(expression), machine), _telling(machine))


def _naming(steps, machine):
    """Returns a right naming: each set of places with the state to which its words lead."""
    sets, rows = sets_of(steps)
    states = {0: 0}
    for at, row in enumerate(rows):
        for letter, end in row.items():
            states[end] = machine.move(states[at], letter)
    return tuple(sorted([(states[at], sets[at]) for at in range(1, len(sets))]))


def _telling(machine):
    """Returns telling words, each of them as short as can be."""
    words = {}
    missing = _pairs(NO_STATE, len(machine.rows))
    while missing:
        longer = {}
        for pair in missing:
            word = _word_between(machine, words, pair)
            if word is not None:
                longer[pair] = word
        # Only now, or a word could be longer than need be.
        for pair, word in longer.items():
            words[pair] = word
        missing = [pair for pair in missing if pair not in words]
    return tuple([(one, other, words[(one, other)]) for one, other in _pairs(0, len(machine.rows))])


def _word_between(machine, words, pair):
    """Returns a word taken from exactly one of the two states, by those that are known, or None."""
    one, other = pair
    if machine.accepts(one) != machine.accepts(other):
        return ""
    for letter in LETTERS:
        ends = (machine.move(one, letter), machine.move(other, letter))
        behind = (min(ends), max(ends))
        if behind in words:
            return letter + words[behind]
    return None


def _pairs(least, many):
    """Returns the list of the pairs of states, the lesser one first, in ascending order."""
    return [(one, other) for one in range(least, many) for other in range(one + 1, many)]


def accepts_automaton(expression, automaton, value):
    """Returns True if the value is evidence that the automaton is that of the expression."""
    check_expression(expression)
    if not is_automaton_within(automaton, MOST_STATES):
        return False
    if not isinstance(value, tuple) or len(value) != 2:
        return False
    naming, telling = value
    steps = steps_of(expression)
    machine = machine_from(automaton)
    if not _is_numbered_as_found(machine) or not _is_naming(steps, machine, naming):
        return False
    return _is_right(steps, machine, naming) and _are_telling(machine, telling)


def _is_numbered_as_found(machine):
    """Returns True if each state is found, and they are numbered in this order."""
    many = 1
    for state, row in enumerate(machine.rows):
        if state == many:
            return False
        for letter in LETTERS:
            end = row.get(letter, 0)
            if end > many:
                return False
            if end == many:
                many += 1
    return True


def _is_naming(steps, machine, value):
    """Returns True if the value has the form of a naming."""
    if not isinstance(value, tuple):
        return False
    before = None
    for pair in value:
        if not isinstance(pair, tuple) or len(pair) != 2:
            return False
        state, row = pair
        if not is_number(state, 0, len(machine.rows) - 1) or not is_row(steps, row):
            return False
        if before is not None and pair <= before:
            return False
        before = pair
    return True


def _is_right(steps, machine, naming):
    """Returns True if the naming is right."""
    named = {pair: True for pair in naming}
    if machine.accepts(0) != steps.empty or not _are_named(steps, machine, named, 0, steps.first):
        return False
    for state, row in naming:
        if machine.accepts(state) != has_last(steps, row):
            return False
        if not _are_named(steps, machine, named, state, places_behind(steps, row)):
            return False
    return True


def _are_named(steps, machine, named, state, near):
    """Returns True if the moves from the state lead to where the near places stand in the naming."""
    behind = by_letter(steps, near)
    for letter in LETTERS:
        end = machine.move(state, letter)
        if letter in behind:
            # There is no pair with NO_STATE, so a missing move is seen, too.
            if (end, behind[letter]) not in named:
                return False
        elif end != NO_STATE:
            return False
    return True


def _are_telling(machine, value):
    """Returns True if the value is a tuple of telling words."""
    pairs = _pairs(0, len(machine.rows))
    if not isinstance(value, tuple) or len(value) != len(pairs):
        return False
    return all([_tells(machine, one, other, each) for (one, other), each in zip(pairs, value)])


def _tells(machine, one, other, value):
    if not isinstance(value, tuple) or len(value) != 3:
        return False
    if not is_number(value[0], one, one) or not is_number(value[1], other, other):
        return False
    word = value[2]
    return is_text(word, MOST_TELLING_LETTERS) and machine.takes(one, word) != machine.takes(other, word)
