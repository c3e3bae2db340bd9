"""Doubts: where a reader cannot know which place a letter fills, and guides where there are none."""

from nodoubt.errors import NotPossible
from nodoubt.expressions import check_long, check_word
from nodoubt.steps import by_letter, is_place, is_row, steps_of

# Stands for the beginning, behind which the first places come.
BEGIN = -1


def is_sure(expression):
    """Returns True if the expression is sure."""
    check_long(expression)
    return not has_conflict(steps_of(expression))


def has_conflict(steps):
    """Returns True if some two places are in conflict."""
    return any([len(_pairs_behind(steps, node)) > 0 for node in _nodes(steps)])


def conflicts(expression):
    """Returns the ascending list of the pairs of places in conflict."""
    check_long(expression)
    steps = steps_of(expression)
    found = {}
    for node in _nodes(steps):
        for pair in _pairs_behind(steps, node):
            found[pair] = True
    return sorted(found)


def _nodes(steps):
    """Returns the list of what other places can stand behind: the beginning, and each place."""
    return list(range(BEGIN, len(steps.letters)))


def _near(steps, node):
    """Returns the ascending tuple of the places directly behind the node."""
    return steps.first if node == BEGIN else steps.following[node]


def _pairs_behind(steps, node):
    """Returns the list of the pairs of places with the same letter directly behind the node."""
    pairs = []
    for row in by_letter(steps, _near(steps, node)).values():
        for at, one in enumerate(row):
            pairs.extend([(one, other) for other in row[at + 1:]])
    return pairs


def first_doubt(expression):
    """Returns the first doubt of the expression, or None if there is none."""
    check_long(expression)
    return _first_doubt(steps_of(expression))


def doubt_word(expression):
    """Returns the word of the first doubt, or None if there is none."""
    check_long(expression)
    steps = steps_of(expression)
    doubt = _first_doubt(steps)
    if doubt is None:
        return None
    before, one, _ = doubt
    return "".join([steps.letters[place] for place in before + (one,)])


def _first_doubt(steps):
    if not has_conflict(steps):
        return None
    before = ()
    node = BEGIN
    for level in reversed(_levels(steps)[:-1]):
        # Two of these places with one letter would be a doubt with fewer letters, so the first letter tells all.
        _, node = min([(steps.letters[place], place) for place in _near(steps, node) if place in level])
        before = before + (node,)
    _, one, other = min([(steps.letters[one], one, other) for one, other in _pairs_behind(steps, node)])
    return (before, one, other)


def _levels(steps):
    """Returns a list of dicts, the one with the index k of the nodes with a pair of places behind k further ones.

    It ends at the first one with the beginning, so there must be a conflict.
    """
    nodes = _nodes(steps)
    levels = [{node: True for node in nodes if _pairs_behind(steps, node)}]
    while BEGIN not in levels[-1]:
        latest = levels[-1]
        levels.append({node: True for node in nodes if any([place in latest for place in _near(steps, node)])})
    return levels


def accepts_doubt(expression, value):
    """Returns True if the value is a doubt of the expression."""
    check_long(expression)
    if not isinstance(value, tuple) or len(value) != 3 or not isinstance(value[0], tuple):
        return False
    steps = steps_of(expression)
    near = steps.first
    for place in value[0]:
        if not is_place(steps, place) or place not in near:
            return False
        near = steps.following[place]
    pair = value[1:]
    if not is_row(steps, pair):
        return False
    one, other = pair
    return one in near and other in near and steps.letters[one] == steps.letters[other]


def guide(expression):
    """Returns the guide of the expression, or None if there is none."""
    check_long(expression)
    steps = steps_of(expression)
    return None if has_conflict(steps) else _guide(steps)


def _guide(steps):
    rows = [_guide_row(steps, node) for node in _nodes(steps)]
    return (rows[0], tuple(rows[1:]))


def _guide_row(steps, node):
    return tuple(sorted([(steps.letters[place], place) for place in _near(steps, node)]))


def accepts_guide(expression, value):
    """Returns True if the judge accepts the value as a guide of the expression."""
    check_long(expression)
    steps = steps_of(expression)
    return not has_conflict(steps) and _is_same(value, _guide(steps))


def _is_same(value, told):
    """Returns True if the value is what is told: tuples, integers and strings."""
    if isinstance(told, tuple):
        if not isinstance(value, tuple) or len(value) != len(told):
            return False
        return all([_is_same(each, other) for each, other in zip(value, told)])
    # True is equal to 1, so the kinds are compared, too.
    if isinstance(value, bool) or not isinstance(value, (int, str)):
        return False
    return value == told


def places_read(expression, word):
    """Returns the tuple of the places of the word, as far as it is read by the guide."""
    check_long(expression)
    check_word(word)
    steps = steps_of(expression)
    if has_conflict(steps):
        raise NotPossible("doubt")
    read = ()
    near = steps.first
    for letter in word:
        row = by_letter(steps, near).get(letter)
        if row is None:
            break
        read = read + row
        near = steps.following[row[0]]
    return read
