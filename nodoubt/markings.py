"""Markings: the places by which an expression matches a word."""

from nodoubt.errors import BadValue
from nodoubt.expressions import check_long, check_word
from nodoubt.steps import candidates_of, is_place, is_right, is_row, places_behind, steps_of


def first_places(expression):
    """Returns the ascending tuple of the first places."""
    check_long(expression)
    return steps_of(expression).first


def last_places(expression):
    """Returns the ascending tuple of the last places."""
    check_long(expression)
    return steps_of(expression).last


def following(expression, place):
    """Returns the ascending tuple of the places that follow the place."""
    check_long(expression)
    steps = steps_of(expression)
    if not is_place(steps, place):
        raise BadValue("place")
    return steps.following[place]


def candidates(expression, word):
    """Returns the list of the candidates of the word, a tuple for each letter."""
    check_long(expression)
    check_word(word)
    return candidates_of(steps_of(expression), word)


def count_markings(expression, word):
    """Returns the number of the markings of the word."""
    check_long(expression)
    check_word(word)
    steps = steps_of(expression)
    if word == "":
        return 1 if steps.empty else 0
    counts = {place: 1 for place in steps.first if steps.letters[place] == word[0]}
    for letter in word[1:]:
        counts = _counts_behind(steps, counts, letter)
    return sum([many for place, many in counts.items() if place in steps.last])


def _counts_behind(steps, counts, letter):
    """Returns how many beginnings of markings end at each place, one letter further."""
    further = {}
    for place, many in counts.items():
        for other in steps.following[place]:
            if steps.letters[other] == letter:
                further[other] = further.get(other, 0) + many
    return further


def first_marking(expression, word):
    """Returns the first marking of the word, or None if it has none."""
    check_long(expression)
    check_word(word)
    steps = steps_of(expression)
    if word == "":
        return () if steps.empty else None
    # From the end, as only there it is known which places can be gone on from.
    rests = {place: (place,) for place in steps.last if steps.letters[place] == word[-1]}
    for letter in reversed(word[:-1]):
        rests = _rests_before(steps, rests, letter)
    return min([rests[place] for place in steps.first if place in rests], default=None)


def _rests_before(steps, rests, letter):
    """Returns the first end of a marking from each place, one letter longer."""
    longer = {}
    for place, own_letter in enumerate(steps.letters):
        if own_letter == letter:
            ends = [rests[other] for other in steps.following[place] if other in rests]
            if ends:
                longer[place] = (place,) + min(ends)
    return longer


def is_marking(expression, word, value):
    """Returns True if the value is a marking of the word."""
    check_long(expression)
    check_word(word)
    if not isinstance(value, tuple) or len(value) != len(word):
        return False
    steps = steps_of(expression)
    if word == "":
        return steps.empty
    near = steps.first
    for letter, place in zip(word, value):
        if not is_place(steps, place) or place not in near or steps.letters[place] != letter:
            return False
        near = steps.following[place]
    return value[-1] in steps.last


def wrong_evidence(expression, word):
    """Returns evidence that the word is wrong, or None if it is right."""
    check_long(expression)
    check_word(word)
    steps = steps_of(expression)
    if is_right(steps, word):
        return None
    return tuple(candidates_of(steps, word))


def accepts_wrong(expression, word, value):
    """Returns True if the judge accepts the value as evidence that the word is wrong."""
    check_long(expression)
    check_word(word)
    if not isinstance(value, tuple) or len(value) != len(word):
        return False
    steps = steps_of(expression)
    if word == "":
        return not steps.empty
    needed = steps.first
    for letter, row in zip(word, value):
        if not is_row(steps, row) or any([steps.letters[place] != letter for place in row]):
            return False
        if any([steps.letters[place] == letter and place not in row for place in needed]):
            return False
        needed = places_behind(steps, row)
    return not any([place in steps.last for place in value[-1]])
