"""Readers that are replayed from journals, and the judge of records."""

from nodoubt.errors import BadValue
from nodoubt.expressions import is_word
from nodoubt.points import MOST_COMMANDS, is_command, is_rest, places_behind_command, sure_steps_of
from nodoubt.reader import Reader
from nodoubt.steps import is_number


def replayed(expression, journal):
    """Returns a Reader that has carried out the commands of the journal."""
    reader = Reader(expression)
    if not _is_journal(journal):
        raise BadValue("journal")
    for command in journal:
        reader.act(command)
    return reader


def _is_journal(value):
    if not isinstance(value, tuple) or len(value) > MOST_COMMANDS:
        return False
    return all([is_command(each) for each in value])


def are_right(expression, records):
    """Returns True if the records are right."""
    steps = sure_steps_of(expression)
    if not isinstance(records, tuple) or len(records) > MOST_COMMANDS:
        return False
    read = ()
    for record in records:
        if not isinstance(record, tuple) or len(record) != 3 or not is_command(record[0]):
            return False
        command, place, rest = record
        read = places_behind_command(steps, read, command)
        if read is None or not _stands_at(read, place):
            return False
        if not is_word(rest) or not is_rest(steps, read, rest):
            return False
    return True


def _stands_at(read, value):
    """Returns True if the value tells the point behind what is read: the last place, or None at the beginning."""
    if read == ():
        return value is None
    return is_number(value, read[-1], read[-1])
