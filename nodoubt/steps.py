"""How the markings of an expression go from place to place."""


class Steps:
    """What tells the markings of an expression.

    The letters of its places, whether the empty word is right, the ascending
    tuples of first and of last places, and for each place the ascending tuple
    of the places that follow it.
    """

    def __init__(self, letters, empty, first, last, following):
        self.letters = letters
        self.empty = empty
        self.first = first
        self.last = last
        self.following = following


def steps_of(expression):
    """Returns the Steps of a long expression."""
    letters = []
    rows = []
    empty, first, last = _ends_of(expression, letters, rows)
    following = [tuple(sorted(row)) for row in rows]
    return Steps("".join(letters), empty, tuple(first), tuple(last), following)


def _ends_of(part, letters, rows):
    """Puts the places of the part behind the others, with what follows them.

    Returns whether the part matches the empty word, and the ascending lists
    of its first and last places.
    """
    if isinstance(part, str):
        return _ends_of_leaf(part, letters, rows)
    word, inner = part
    if word == "join":
        return _ends_of_join(inner, letters, rows)
    if word == "or":
        return _ends_of_or(inner, letters, rows)
    _, first, last = _ends_of(inner, letters, rows)
    if word == "many":
        _link(rows, last, first)
    return True, first, last


def _ends_of_leaf(part, letters, rows):
    if part == "":
        return True, [], []
    place = len(letters)
    letters.append(part)
    rows.append({})
    return False, [place], [place]


def _ends_of_join(parts, letters, rows):
    empty, first, last = True, [], []
    for part in parts:
        part_empty, part_first, part_last = _ends_of(part, letters, rows)
        _link(rows, last, part_first)
        # Later parts have greater places, so what is put behind stays ascending.
        if empty:
            first = first + part_first
        last = last + part_last if part_empty else part_last
        empty = empty and part_empty
    return empty, first, last


def _ends_of_or(parts, letters, rows):
    empty, first, last = False, [], []
    for part in parts:
        part_empty, part_first, part_last = _ends_of(part, letters, rows)
        first = first + part_first
        last = last + part_last
        empty = empty or part_empty
    return empty, first, last


def _link(rows, ends, begins):
    """Lets each of the places that begin follow each of those that end."""
    for end in ends:
        for begin in begins:
            rows[end][begin] = True


def is_number(value, least, most):
    """Returns True if the value is an integer within the bounds; True and False are none."""
    return isinstance(value, int) and not isinstance(value, bool) and least <= value <= most


def is_place(steps, value):
    """Returns True if the value is a place of the expression."""
    return is_number(value, 0, len(steps.letters) - 1)


def is_row(steps, value):
    """Returns True if the value is an ascending tuple of places of the expression."""
    if not isinstance(value, tuple):
        return False
    before = -1
    for place in value:
        if not is_place(steps, place) or place <= before:
            return False
        before = place
    return True


def longer_rows(rows, many):
    """Returns the ascending tuples of the first places, so many, that begin with one of the rows and are one longer."""
    longer = []
    for row in rows:
        least = row[-1] + 1 if row else 0
        longer.extend([row + (place,) for place in range(least, many)])
    return longer


def by_letter(steps, near):
    """Returns a dict from the letters that some of the ascending places have to the tuple of these."""
    rows = {}
    for place in near:
        letter = steps.letters[place]
        rows[letter] = rows.get(letter, ()) + (place,)
    return rows


def places_behind(steps, row):
    """Returns the ascending list of the places that follow some place of the row."""
    found = set()
    for place in row:
        for other in steps.following[place]:
            found.add(other)
    return sorted(found)


def candidates_of(steps, word):
    """Returns the list of the ascending tuples of candidates, one for each letter."""
    # Every place stands in some marking, so whatever is reached can be gone on from.
    rows = []
    near = steps.first
    for letter in word:
        row = tuple([place for place in near if steps.letters[place] == letter])
        rows.append(row)
        near = places_behind(steps, row)
    return rows


def is_right(steps, word):
    """Returns True if the word is right."""
    if word == "":
        return steps.empty
    return any([place in steps.last for place in candidates_of(steps, word)[-1]])
