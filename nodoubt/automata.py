"""Automata: the one of an expression, the first words of its states, and how many words it takes."""

from nodoubt.errors import BadValue, TooLarge
from nodoubt.expressions import LETTERS, check_expression, check_word, is_letter
from nodoubt.steps import by_letter, is_number, places_behind, steps_of

MOST_STATES = 40
MOST_STATES_OF_A_VALUE = 300
MOST_COUNTED = 60

# Stands for the state where a run has ended without one.
NO_STATE = -1


class Machine:
    """An automaton: what stands for each state, and for each state a dict from letters to states."""

    def __init__(self, accepting, rows):
        self.accepting = accepting
        self.rows = rows

    def move(self, state, letter):
        """Returns the state to which the letter leads, or NO_STATE."""
        if state == NO_STATE:
            return NO_STATE
        return self.rows[state].get(letter, NO_STATE)

    def run(self, state, word):
        """Returns the state to which the word leads, or NO_STATE."""
        for letter in word:
            state = self.move(state, letter)
        return state

    def accepts(self, state):
        """Returns True if True stands for the state."""
        return state != NO_STATE and self.accepting[state]

    def takes(self, state, word):
        """Returns True if the automaton takes the word from the state."""
        return self.accepts(self.run(state, word))


def is_automaton(value):
    """Returns True if the value is an automaton with at most 300 states."""
    return is_automaton_within(value, MOST_STATES_OF_A_VALUE)


def is_automaton_within(value, most):
    """Returns True if the value is an automaton with at most so many states."""
    if not isinstance(value, tuple) or len(value) != 2:
        return False
    accepting, moves = value
    if not isinstance(accepting, tuple) or not 1 <= len(accepting) <= most:
        return False
    if not all([isinstance(each, bool) for each in accepting]):
        return False
    return are_moves(moves, list(range(len(accepting))))


def are_moves(value, states):
    """Returns True if the value is an ascending tuple of moves between the states, a letter leading to one state."""
    if not isinstance(value, tuple):
        return False
    inside = {state: True for state in states}
    before = None
    for move in value:
        if not _is_move(move, inside):
            return False
        start, letter, _ = move
        # Moves that differ in their last state alone would be two by one letter.
        if before is not None and (start, letter) <= before:
            return False
        before = (start, letter)
    return True


def _is_move(value, inside):
    if not isinstance(value, tuple) or len(value) != 3 or not is_letter(value[1]):
        return False
    return all([is_number(state, 0, MOST_STATES_OF_A_VALUE) and state in inside for state in (value[0], value[2])])


def machine_from(automaton):
    """Returns the Machine of an automaton."""
    accepting, moves = automaton
    rows = [{} for _ in accepting]
    for start, letter, end in moves:
        rows[start][letter] = end
    return Machine(accepting, rows)


def automaton_from(machine):
    """Returns the automaton of a Machine."""
    moves = []
    for state, row in enumerate(machine.rows):
        moves.extend([(state, letter, row[letter]) for letter in LETTERS if letter in row])
    return (tuple(machine.accepting), tuple(moves))


def automaton_of(expression):
    """Returns the automaton of the expression."""
    check_expression(expression)
    return automaton_from(small_machine_of(expression))


def small_machine_of(expression):
    """Returns the Machine of the expression, or raises TooLarge if it has more than 40 states."""
    machine = machine_of(expression)
    if len(machine.rows) > MOST_STATES:
        raise TooLarge("states")
    return machine


def machine_of(expression):
    """Returns the Machine of the automaton of the expression, whatever number of states it has."""
    steps = steps_of(expression)
    sets, rows = sets_of(steps)
    ends = [steps.empty] + [has_last(steps, each) for each in sets[1:]]
    classes = _classes(ends, rows)
    # The sets are found in the order of the first words that lead to them. Classes are numbered by the first of
    # their sets, so they, too, are in the order of their first words: the order in which they are found.
    accepting = []
    merged = []
    for at, state in enumerate(classes):
        if state == len(merged):
            accepting.append(ends[at])
            merged.append({letter: classes[end] for letter, end in rows[at].items()})
    return Machine(accepting, merged)


def has_last(steps, row):
    """Returns True if one of the places is a last one."""
    return any([place in steps.last for place in row])


def sets_of(steps):
    """Returns the sets of places that a word's last letter can fill, as they are found, and the moves between them.

    Sets are told by their ascending tuples; () is the beginning. For each of them there is a dict from letters to
    the indexes of other ones.
    """
    numbers = {(): 0}
    sets = [()]
    rows = []
    while len(rows) < len(sets):
        latest = sets[len(rows)]
        behind = by_letter(steps, steps.first if latest == () else places_behind(steps, latest))
        row = {}
        for letter in LETTERS:
            if letter in behind:
                found = behind[letter]
                if found not in numbers:
                    numbers[found] = len(sets)
                    sets.append(found)
                row[letter] = numbers[found]
        rows.append(row)
    return sets, rows


def _classes(ends, rows):
    """Returns a number for each state, the same one for states from which the same words are taken."""
    classes = _numbered(ends)
    while True:
        signs = []
        for at, row in enumerate(rows):
            ways = [classes[row[letter]] if letter in row else NO_STATE for letter in LETTERS]
            signs.append((classes[at], tuple(ways)))
        finer = _numbered(signs)
        if finer == classes:
            return classes
        classes = finer


def _numbered(signs):
    """Returns a number for each sign, the same one for equal ones, in the order in which they come."""
    numbers = {}
    for sign in signs:
        numbers.setdefault(sign, len(numbers))
    return [numbers[sign] for sign in signs]


def first_words(expression):
    """Returns the tuple of the first words of the states."""
    check_expression(expression)
    machine = small_machine_of(expression)
    words = [""]
    for state, row in enumerate(machine.rows):
        for letter in LETTERS:
            # States are numbered as they are found, so a new number is met by its first word.
            if row.get(letter) == len(words):
                words.append(words[state] + letter)
    return tuple(words)


def state_behind(expression, word):
    """Returns the state of the word, or None if the word is not live."""
    check_expression(expression)
    check_word(word)
    state = machine_of(expression).run(0, word)
    return None if state == NO_STATE else state


def count_words(expression, length):
    """Returns the number of the right words of the length."""
    check_expression(expression)
    if not is_number(length, 0, MOST_COUNTED):
        raise BadValue("length")
    return counts_of(machine_of(expression), length)[length][0]


def counts_of(machine, length):
    """Returns a list for each number of letters up to the length: how many such words are taken from each state."""
    counts = [[1 if ends else 0 for ends in machine.accepting]]
    for _ in range(length):
        latest = counts[-1]
        counts.append([sum([latest[end] for end in row.values()]) for row in machine.rows])
    return counts
