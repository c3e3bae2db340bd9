"""Colors that tell places in conflict apart, and crowds, which need many of them."""

from nodoubt.doubts import conflicts
from nodoubt.errors import BadValue
from nodoubt.expressions import check_expression, places
from nodoubt.steps import is_number, is_row, longer_rows, steps_of

MOST_COLORS = 8


def separates(expression, value):
    """Returns True if the value is a coloring that separates."""
    check_expression(expression)
    return _separates(expression, MOST_COLORS, value)


def _separates(expression, number, value):
    """Returns True if the value is a coloring that separates, with so many colors."""
    if not isinstance(value, tuple) or len(value) != len(places(expression)):
        return False
    if not all([is_number(color, 0, number - 1) for color in value]):
        return False
    return all([value[one] != value[other] for one, other in conflicts(expression)])


def color_number(expression):
    """Returns the number of colors."""
    check_expression(expression)
    number, _ = _number_and_coloring(expression)
    return number


def told_coloring(expression):
    """Returns the told coloring."""
    check_expression(expression)
    _, coloring = _number_and_coloring(expression)
    return coloring


def _number_and_coloring(expression):
    """Returns the number of colors, and the told coloring."""
    earlier = [[] for _ in places(expression)]
    for one, other in conflicts(expression):
        earlier[other].append(one)
    # The places of a crowd have different colors, so there is no need to try fewer.
    number = max(1, len(_greatest_crowd(expression)))
    coloring = _colored_on(earlier, number, ())
    while coloring is None:
        number += 1
        coloring = _colored_on(earlier, number, ())
    return number, coloring


def _colored_on(earlier, number, coloring):
    """Returns the first coloring that separates and begins so, with so many colors, or None if there is none.

    For each place there is the list of the earlier ones with which it is in conflict.
    """
    if len(coloring) == len(earlier):
        return coloring
    taken = [coloring[place] for place in earlier[len(coloring)]]
    for color in range(number):
        if color not in taken:
            whole = _colored_on(earlier, number, coloring + (color,))
            if whole is not None:
                return whole
    return None


def greatest_crowd(expression):
    """Returns the greatest crowd."""
    check_expression(expression)
    return _greatest_crowd(expression)


def _greatest_crowd(expression):
    pairs = conflicts(expression)
    many = len(places(expression))
    crowds = [()]
    while True:
        # They stay in order, as what is longer is made from the first ones first.
        longer = [row for row in longer_rows(crowds, many) if _is_crowd(pairs, row)]
        if longer == []:
            return crowds[0]
        crowds = longer


def _is_crowd(pairs, row):
    """Returns True if each two of the ascending places are one of the pairs in conflict."""
    return all([(one, other) in pairs for at, one in enumerate(row) for other in row[at + 1:]])


def accepts_colors(expression, number, value):
    """Returns True if the value is grounds for this number of colors."""
    check_expression(expression)
    if not is_number(number, 1, MOST_COLORS):
        raise BadValue("number")
    if not isinstance(value, tuple) or len(value) != 2:
        return False
    coloring, crowd = value
    if not _separates(expression, number, coloring) or not is_row(steps_of(expression), crowd):
        return False
    return _is_crowd_size(number, len(crowd)) and _is_crowd(conflicts(expression), crowd)


def _is_crowd_size(number, size):
    """Returns True if the crowd of grounds for so many colors can have so many places."""
    # One color needs no place to show that there are not fewer, and there can be none.
    return size == number or (number == 1 and size == 0)


def color_grounds(expression):
    """Returns grounds for the number of colors, or None if there are none."""
    check_expression(expression)
    number, coloring = _number_and_coloring(expression)
    if number == 1:
        return (coloring, ())
    crowd = _greatest_crowd(expression)
    return (coloring, crowd) if len(crowd) == number else None
