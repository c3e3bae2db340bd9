"""Expressions and words: their forms, and which words an expression matches."""

from nodoubt.errors import BadValue
from nodoubt.steps import is_right, steps_of

LETTERS = "abcd"
MOST_LETTERS = 24

# The most places, the greatest depth and the most parts, as sizes() tells them.
BOUNDS = (8, 6, 24)
LONG_BOUNDS = (40, 40, 200)


def is_expression(value):
    """Returns True if the value is an expression."""
    return sizes_within(value, BOUNDS) is not None


def is_long(value):
    """Returns True if the value is a long expression."""
    return sizes_within(value, LONG_BOUNDS) is not None


def is_word(value):
    """Returns True if the value is a word."""
    return is_text(value, MOST_LETTERS)


def matches(expression, word):
    """Returns True if the expression matches the word."""
    check_long(expression)
    check_word(word)
    return is_right(steps_of(expression), word)


def places(expression):
    """Returns the string of the letters of the places, in their order."""
    check_long(expression)
    return steps_of(expression).letters


def sizes(expression):
    """Returns how many places, how deep and how many parts the expression has."""
    check_long(expression)
    return sizes_within(expression, LONG_BOUNDS)


def is_letter(value):
    """Returns True if the value is a letter."""
    return isinstance(value, str) and len(value) == 1 and value in LETTERS


def is_text(value, most):
    """Returns True if the value is a string of at most so many letters, or of any number of them for None."""
    if not isinstance(value, str) or (most is not None and len(value) > most):
        return False
    return all([letter in LETTERS for letter in value])


def check_expression(value, name="expression"):
    """Raises BadValue with the name if the value is not an expression."""
    if not is_expression(value):
        raise BadValue(name)


def check_long(value):
    """Raises BadValue if the value is not a long expression."""
    if not is_long(value):
        raise BadValue("expression")


def check_word(value):
    """Raises BadValue if the value is not a word."""
    if not is_word(value):
        raise BadValue("word")


def sizes_within(value, bounds):
    """Returns the sizes of the value, or None if it is no expression within the bounds."""
    most_places, most_deep, most_parts = bounds
    many_places, deepest, many_parts = 0, 0, 1
    waiting = [(value, 0)]
    # No recursion, and an end at the first bound: the value can be of any size.
    while waiting:
        part, deep = waiting.pop()
        inner = _parts_of(part)
        if inner is None:
            return None
        if isinstance(part, str):
            many_places += len(part)
        deepest = max(deepest, deep)
        many_parts += len(inner)
        if many_places > most_places or deepest > most_deep or many_parts > most_parts:
            return None
        waiting.extend([(each, deep + 1) for each in inner])
    return (many_places, deepest, many_parts)


def _parts_of(value):
    """Returns the parts directly in the value, or None if it has no form of an expression."""
    if isinstance(value, str):
        return () if value == "" or is_letter(value) else None
    if not isinstance(value, tuple) or len(value) != 2 or not isinstance(value[0], str):
        return None
    word, inner = value
    if word == "maybe" or word == "many":
        return (inner,)
    if (word == "join" or word == "or") and _is_row(word, inner):
        return inner
    return None


def _is_row(word, value):
    """Returns True if the value can be the parts of a "join" or an "or", as the word tells."""
    if not isinstance(value, tuple) or len(value) < 2:
        return False
    return not any([_begins_with(part, word) for part in value])


def _begins_with(value, word):
    return isinstance(value, tuple) and len(value) > 0 and value[0] == word
