"""Expressions made from an expression, and how long its words are."""

from nodoubt.errors import BadValue
from nodoubt.expressions import LETTERS, check_long


def turned(expression):
    """Returns the turned expression."""
    check_long(expression)
    return _turned(expression)


def _turned(part):
    if isinstance(part, str):
        return part
    word, inner = part
    if word == "maybe" or word == "many":
        return (word, _turned(inner))
    return (word, tuple([_turned(each) for each in inner[::-1]]))


def renamed(expression, order):
    """Returns the expression renamed by the order."""
    check_long(expression)
    if not _is_order(order):
        raise BadValue("order")
    return _renamed(expression, order)


def _is_order(value):
    if not isinstance(value, str) or len(value) != len(LETTERS):
        return False
    return all([letter in value for letter in LETTERS])


def _renamed(part, order):
    if part == "":
        return part
    if isinstance(part, str):
        return order[LETTERS.index(part)]
    word, inner = part
    if word == "maybe" or word == "many":
        return (word, _renamed(inner, order))
    return (word, tuple([_renamed(each, order) for each in inner]))


def simple(expression):
    """Returns the simple form of the expression."""
    check_long(expression)
    return _simple(expression)


def _simple(part):
    if isinstance(part, str):
        return part
    word, inner = part
    if word == "maybe":
        return _simple_maybe(_simple(inner))
    if word == "many":
        return _simple_many(_simple(inner))
    parts = [_simple(each) for each in inner]
    if word == "join":
        return join_of(parts)
    return _simple_or(opened_parts("or", parts))


def _simple_maybe(part):
    if _least(part) == 0:
        return part
    return ("maybe", part)


def _simple_many(part):
    if part == "":
        return part
    if _has_word(part, "maybe") or _has_word(part, "many"):
        return ("many", part[1])
    return ("many", part)


def _simple_or(parts):
    kept = []
    for each in parts:
        if each not in kept:
            kept.append(each)
    others = [each for each in kept if each != ""]
    if any([_least(each) == 0 for each in others]):
        return row_of("or", others)
    return row_of("or", kept)


def join_of(parts):
    """Returns the "join" of the parts, but without empty ones and without a "join" in it."""
    return row_of("join", [each for each in opened_parts("join", parts) if each != ""])


def opened_parts(word, parts):
    """Returns the list of the parts, those with the word replaced by their own parts."""
    opened = []
    for each in parts:
        if _has_word(each, word):
            opened.extend(each[1])
        else:
            opened.append(each)
    return opened


def _has_word(part, word):
    return isinstance(part, tuple) and part[0] == word


def row_of(word, parts):
    """Returns the parts with the word before them, where a single part needs none."""
    if len(parts) == 0:
        return ""
    if len(parts) == 1:
        return parts[0]
    return (word, tuple(parts))


def least_length(expression):
    """Returns the least number of letters of a right word."""
    check_long(expression)
    return _least(expression)


def _least(part):
    if isinstance(part, str):
        return len(part)
    word, inner = part
    if word == "maybe" or word == "many":
        return 0
    lengths = [_least(each) for each in inner]
    return sum(lengths) if word == "join" else min(lengths)


def greatest_length(expression):
    """Returns the greatest number of letters of a right word, or None if there is none."""
    check_long(expression)
    return _greatest(expression)


def _greatest(part):
    if isinstance(part, str):
        return len(part)
    word, inner = part
    if word == "maybe":
        return _greatest(inner)
    if word == "many":
        # What matches the empty word alone matches nothing else many times.
        return 0 if _greatest(inner) == 0 else None
    lengths = [_greatest(each) for each in inner]
    # Every part matches some word, so one part without a greatest length is enough.
    if None in lengths:
        return None
    return sum(lengths) if word == "join" else max(lengths)
