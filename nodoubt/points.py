"""The points at which a reader can stand, told by the places that it has read, and what can come there.

The expressions have no doubt, so there is only one place for each letter.
"""

from nodoubt.doubts import has_conflict
from nodoubt.errors import NotPossible
from nodoubt.expressions import check_expression, is_letter
from nodoubt.steps import steps_of

MOST_COMMANDS = 20


def sure_steps_of(expression):
    """Returns the Steps of the expression, which must be one without a doubt."""
    check_expression(expression)
    steps = steps_of(expression)
    if has_conflict(steps):
        raise NotPossible("doubt")
    return steps


def is_command(value):
    """Returns True if the value is a command."""
    if not isinstance(value, tuple) or len(value) == 0:
        return False
    if value[0] == "read":
        return len(value) == 2 and is_letter(value[1])
    return value[0] == "back" and len(value) == 1


def places_behind_command(steps, read, command):
    """Returns the places that are read behind the command, or None if it is not possible."""
    if command[0] == "back":
        return read[:-1] if read else None
    place = _place_of(steps, read, command[1])
    return None if place is None else read + (place,)


def near_places(steps, read):
    """Returns the places that can come behind those that are read."""
    return steps.following[read[-1]] if read else steps.first


def _place_of(steps, read, letter):
    """Returns the place for which the letter stands behind what is read, or None if it may not follow."""
    for place in near_places(steps, read):
        if steps.letters[place] == letter:
            return place
    return None


def can_end(steps, read):
    """Returns True if the word of what is read is right."""
    return read[-1] in steps.last if read else steps.empty


def is_rest(steps, read, word):
    """Returns True if the word is a rest behind what is read."""
    for letter in word:
        place = _place_of(steps, read, letter)
        if place is None:
            return False
        read = (place,)
    return can_end(steps, read)


def first_rest_behind(steps, read):
    """Returns the first rest behind what is read."""
    if can_end(steps, read):
        return ""
    near = near_places(steps, read)
    rests = {place: "" for place in steps.last}
    # The rests get longer by one letter each time, so the first ones that are found are as short as can be.
    while not any([place in rests for place in near]):
        rests = _longer_rests(steps, rests)
    return _first_of(steps, rests, near)


def _longer_rests(steps, rests):
    """Returns the first rests of more places: also of those from which the next place has one."""
    more = dict(rests)
    for place, near in enumerate(steps.following):
        if place not in rests and any([other in rests for other in near]):
            more[place] = _first_of(steps, rests, near)
    return more


def _first_of(steps, rests, near):
    """Returns the first one of what goes on to one of the near places, and from there with its rest."""
    return min([steps.letters[place] + rests[place] for place in near if place in rests])
