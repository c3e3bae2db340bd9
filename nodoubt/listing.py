"""Right words in order by length, found by their numbers without listing all."""

from nodoubt.automata import NO_STATE, counts_of, small_machine_of
from nodoubt.errors import BadValue
from nodoubt.expressions import LETTERS, MOST_LETTERS, check_expression, check_word
from nodoubt.steps import is_number

MOST_INDEX = 1000000
MOST_LISTED = 20


def count_up_to(expression, length):
    """Returns the number of the right words with at most so many letters."""
    check_expression(expression)
    _check_number("length", length, MOST_LETTERS)
    counts = counts_of(small_machine_of(expression), length)
    return sum([row[0] for row in counts])


def nth_word(expression, index):
    """Returns the right word with the number, or None if there is none with at most 24 letters."""
    check_expression(expression)
    _check_number("index", index, MOST_INDEX)
    machine = small_machine_of(expression)
    return _word_at(machine, counts_of(machine, MOST_LETTERS), index)


def number_of(expression, word):
    """Returns the number of the word, or None if it is not right."""
    check_expression(expression)
    check_word(word)
    machine = small_machine_of(expression)
    if not machine.takes(0, word):
        return None
    counts = counts_of(machine, len(word))
    number = sum([row[0] for row in counts[:-1]])
    state = 0
    for at, letter in enumerate(word):
        rest = len(word) - at - 1
        for other in LETTERS[:LETTERS.index(letter)]:
            number += _count_from(counts, machine.move(state, other), rest)
        state = machine.move(state, letter)
    return number


def words_from(expression, index, many):
    """Returns the list of so many right words from the number on, or of those that there are."""
    check_expression(expression)
    _check_number("index", index, MOST_INDEX)
    _check_number("many", many, MOST_LISTED)
    machine = small_machine_of(expression)
    counts = counts_of(machine, MOST_LETTERS)
    words = [_word_at(machine, counts, index + further) for further in range(many)]
    return [word for word in words if word is not None]


def _check_number(name, value, most):
    """Raises BadValue with the name if the value is not an integer from 0 to the greatest one."""
    if not is_number(value, 0, most):
        raise BadValue(name)


def _count_from(counts, state, length):
    """Returns how many words of the length are taken from the state, which can be NO_STATE."""
    return 0 if state == NO_STATE else counts[length][state]


def _word_at(machine, counts, index):
    """Returns the word with the number, or None if there are not so many."""
    for length, row in enumerate(counts):
        if index < row[0]:
            return _word_of_length(machine, counts, length, index)
        index -= row[0]
    return None


def _word_of_length(machine, counts, length, index):
    """Returns the word with the index among those of the length, as strings in order."""
    word = ""
    state = 0
    for rest in reversed(range(length)):
        for letter in LETTERS:
            end = machine.move(state, letter)
            many = _count_from(counts, end, rest)
            if index < many:
                word += letter
                state = end
                break
            index -= many
    return word
