"""Comparing expressions by the words that are right for them."""

from nodoubt.automata import NO_STATE, small_machine_of
from nodoubt.expressions import LETTERS, check_expression, is_text
from nodoubt.steps import is_number


def is_included(first, second):
    """Returns True if every word that is right for the first expression is right for the second one."""
    one, other = _machines(first, second)
    return _shows_included(one, other, list(_words_to_pairs(one, other)))


def are_equal(first, second):
    """Returns True if the expressions are equal in words."""
    one, other = _machines(first, second)
    return _shows_equal(one, other, list(_words_to_pairs(one, other)))


def telling_word(first, second):
    """Returns the first word that tells the expressions apart, or None if there is none."""
    one, other = _machines(first, second)
    for pair, word in _words_to_pairs(one, other).items():
        if one.accepts(pair[0]) != other.accepts(pair[1]):
            return word
    return None


def told_relation(first, second):
    """Returns the tuple of the pairs to which some word leads."""
    one, other = _machines(first, second)
    return tuple(sorted(_words_to_pairs(one, other)))


def accepts_equal(first, second, value):
    """Returns True if the value is a relation that shows that the expressions are equal in words."""
    one, other = _machines(first, second)
    return _is_relation(one, other, value) and _shows_equal(one, other, value)


def accepts_included(first, second, value):
    """Returns True if the value is a relation that shows that the first expression is included in the second one."""
    one, other = _machines(first, second)
    return _is_relation(one, other, value) and _shows_included(one, other, value)


def accepts_telling(first, second, value):
    """Returns True if the value is a string of letters that is right for exactly one of the expressions."""
    one, other = _machines(first, second)
    return is_text(value, None) and one.takes(0, value) != other.takes(0, value)


def _machines(first, second):
    """Returns the Machines of the two expressions."""
    check_expression(first, "first")
    check_expression(second, "second")
    return small_machine_of(first), small_machine_of(second)


def _words_to_pairs(one, other):
    """Returns a dict from the pairs that are reached to the first words that lead there, in order by length."""
    words = {(0, 0): ""}
    latest = [(0, 0)]
    while latest:
        further = []
        for pair in latest:
            for letter in LETTERS:
                behind = _pair_behind(one, other, pair, letter)
                if behind not in words:
                    words[behind] = words[pair] + letter
                    further.append(behind)
        latest = further
    return words


def _pair_behind(one, other, pair, letter):
    return (one.move(pair[0], letter), other.move(pair[1], letter))


def _is_relation(one, other, value):
    """Returns True if the value is a relation of the two."""
    if not isinstance(value, tuple):
        return False
    before = None
    for pair in value:
        if not _is_pair(one, other, pair) or (before is not None and pair <= before):
            return False
        before = pair
    inside = {pair: True for pair in value}
    if (0, 0) not in inside:
        return False
    return all([_pair_behind(one, other, pair, letter) in inside for pair in value for letter in LETTERS])


def _is_pair(one, other, value):
    if not isinstance(value, tuple) or len(value) != 2:
        return False
    return all([is_number(state, NO_STATE, len(machine.rows) - 1) for state, machine in zip(value, (one, other))])


def _shows_equal(one, other, pairs):
    return not any([one.accepts(pair[0]) != other.accepts(pair[1]) for pair in pairs])


def _shows_included(one, other, pairs):
    return not any([one.accepts(pair[0]) and not other.accepts(pair[1]) for pair in pairs])
