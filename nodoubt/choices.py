"""Choices of places that part the conflicts, and odd rounds of places, by which no choice does."""

from nodoubt.doubts import conflicts
from nodoubt.expressions import check_expression, places
from nodoubt.steps import is_place, is_row, longer_rows, steps_of

LEAST_ROUND = 3


def parts_conflicts(expression, value):
    """Returns True if the value is a choice that parts the conflicts."""
    check_expression(expression)
    return is_row(steps_of(expression), value) and _parts(conflicts(expression), value)


def _parts(pairs, choice):
    return all([(one in choice) != (other in choice) for one, other in pairs])


def smallest_choice(expression):
    """Returns the smallest choice that parts the conflicts, or None if there is none."""
    check_expression(expression)
    pairs = conflicts(expression)
    many = len(places(expression))
    rows = [()]
    while rows:
        for row in rows:
            if _parts(pairs, row):
                return row
        rows = longer_rows(rows, many)
    return None


def told_round(expression):
    """Returns the told round, or None if there is none."""
    check_expression(expression)
    pairs = conflicts(expression)
    many = len(places(expression))
    ways = [(place,) for place in range(many)]
    while ways:
        for way in ways:
            if _is_odd_round(pairs, way):
                return way
        ways = _longer_ways(pairs, many, ways)
    return None


def _longer_ways(pairs, many, ways):
    """Returns the ways with one place more, different from theirs and in conflict with the last one, in order."""
    longer = []
    for way in ways:
        behind = [place for place in range(many) if place not in way and _are_in_conflict(pairs, way[-1], place)]
        longer.extend([way + (place,) for place in behind])
    return longer


def accepts_round(expression, value):
    """Returns True if the value is an odd round."""
    check_expression(expression)
    steps = steps_of(expression)
    if not isinstance(value, tuple) or not all([is_place(steps, place) for place in value]):
        return False
    return len(set(value)) == len(value) and _is_odd_round(conflicts(expression), value)


def _is_odd_round(pairs, row):
    """Returns True if the different places, one behind the other and the last one with the first, are an odd round."""
    if len(row) < LEAST_ROUND or len(row) % 2 == 0:
        return False
    return all([_are_in_conflict(pairs, row[at - 1], place) for at, place in enumerate(row)])


def _are_in_conflict(pairs, one, other):
    return (min(one, other), max(one, other)) in pairs
