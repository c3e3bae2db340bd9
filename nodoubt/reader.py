"""Readers, who read words letter by letter and can go back."""

from nodoubt.errors import BadValue, NotPossible, TooLarge
from nodoubt.expressions import LETTERS
from nodoubt.points import (
    MOST_COMMANDS, can_end, first_rest_behind, is_command, near_places, places_behind_command, sure_steps_of,
)


class Reader:
    """Reads by an expression without a doubt."""

    def __init__(self, expression):
        self._expression = expression
        self._steps = sure_steps_of(expression)
        self._journal = []
        # The places that were read at the beginning, and behind each command of the journal.
        self._reads = [()]

    def act(self, command):
        """Carries out the command, and returns the number of commands in the journal."""
        if not is_command(command):
            raise BadValue("command")
        read = places_behind_command(self._steps, self._reads[-1], command)
        if read is None:
            raise NotPossible("begin" if command[0] == "back" else "letter")
        if len(self._journal) == MOST_COMMANDS:
            raise TooLarge("commands")
        self._journal.append(command)
        self._reads.append(read)
        return len(self._journal)

    def undo(self):
        """Undoes the last command and returns it, or None if the journal is empty."""
        if len(self._journal) == 0:
            return None
        self._reads.pop()
        return self._journal.pop()

    def word(self):
        """Returns what was read."""
        return "".join([self._steps.letters[place] for place in self._reads[-1]])

    def places(self):
        """Returns the tuple of the places for which the letters of the word stand."""
        return self._reads[-1]

    def journal(self):
        """Returns the tuple of the commands in the journal."""
        return tuple(self._journal)

    def may_follow(self):
        """Returns the letters that may follow, in their order."""
        near = [self._steps.letters[place] for place in near_places(self._steps, self._reads[-1])]
        return "".join([letter for letter in LETTERS if letter in near])

    def may_end(self):
        """Returns True if the word may end."""
        return can_end(self._steps, self._reads[-1])

    def first_rest(self):
        """Returns the first rest."""
        return first_rest_behind(self._steps, self._reads[-1])

    def records(self):
        """Returns the tuple of the records: each command with the place and the first rest behind it."""
        found = []
        for command, read in zip(self._journal, self._reads[1:]):
            place = read[-1] if read else None
            found.append((command, place, first_rest_behind(self._steps, read)))
        return tuple(found)

    def twin(self):
        """Returns a reader with the same expression and the same journal."""
        other = Reader(self._expression)
        for command in self.journal():
            other.act(command)
        return other
