"""Certificates: whether any expression without a doubt has the same right words, with what shows it."""

from nodoubt.automata import automaton_from, machine_of, small_machine_of
from nodoubt.doubts import has_conflict
from nodoubt.expressions import check_expression, is_long
from nodoubt.inward import accepts_reason, find_reason, find_shortest_reason
from nodoubt.making import Layer, made_in_bounds
from nodoubt.orbits import system_of
from nodoubt.steps import steps_of


def certificate(expression):
    """Returns the told certificate."""
    system = system_of(_small_automaton_of(expression))
    reason = find_reason(system)
    if reason is not None:
        return ("never", reason)
    return ("sure", made_in_bounds(Layer(system), 0))


def shortest_never(expression):
    """Returns the shortest certificate "never", or None if none is accepted."""
    reason = find_shortest_reason(system_of(_small_automaton_of(expression)))
    return None if reason is None else ("never", reason)


def accepts(expression, value):
    """Returns True if the value is a certificate that the judge accepts for the expression."""
    automaton = _small_automaton_of(expression)
    if not isinstance(value, tuple) or len(value) != 2:
        return False
    word, shown = value
    if word == "sure":
        return _is_sure_and_takes(shown, automaton)
    return word == "never" and accepts_reason(system_of(automaton), shown)


def can_be_sure(expression):
    """Returns True if some expression without a doubt has the same right words."""
    return find_reason(system_of(_small_automaton_of(expression))) is None


def _small_automaton_of(expression):
    """Returns the automaton of the expression, or raises TooLarge if it has more than 40 states."""
    check_expression(expression)
    return automaton_from(small_machine_of(expression))


def _is_sure_and_takes(value, automaton):
    """Returns True if the value is a long expression without a doubt, and the automaton is its own one."""
    # Without a doubt there are hardly more states than places, so the automaton is worked out only then.
    if not is_long(value) or has_conflict(steps_of(value)):
        return False
    return automaton_from(machine_of(value)) == automaton
