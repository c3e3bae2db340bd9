"""Reading the texts of expressions and words."""

from nodoubt.errors import BadValue, TextError
from nodoubt.expressions import BOUNDS, LONG_BOUNDS, MOST_LETTERS, sizes_within
from nodoubt.scanning import check_text, scan
from nodoubt.simple import opened_parts, row_of

EXPRESSION = "expression"
WORD = "word"

A_LETTER = "a letter"
THE_END = "the end"

# The words of the signs that stand behind what they belong to.
SIGN_WORDS = {"?": "maybe", "*": "many"}

# No text is long enough for more places, more depth or more parts.
TEXT_BOUNDS = (400, 400, 800)


def next_tokens(text, kind):
    """Returns the list of what can come behind the tokens of the text, which begins a text of the kind."""
    check_text(text)
    if kind not in (EXPRESSION, WORD):
        raise BadValue("kind")
    return _next_behind(scan(text)[:-1], kind)


def _next_behind(tokens, kind):
    """Returns the list of what can come behind the tokens, or raises TextError at the first that cannot come."""
    nested = 0
    can_come = _next_of(kind, "", nested)
    for token in tokens:
        _, characters, column = token
        if _told(token) not in can_come:
            raise TextError(column, f"expected {_listed(can_come)}")
        if characters == "(":
            nested += 1
        if characters == ")":
            nested -= 1
        can_come = _next_of(kind, characters, nested)
    return can_come


def _told(token):
    """Returns the words for the token."""
    kind, characters, _ = token
    if kind == "letter":
        return A_LETTER
    return THE_END if kind == "end" else f'"{characters}"'


def _all_quoted(signs):
    """Returns the list of the words for the signs."""
    return [f'"{sign}"' for sign in signs]


def _listed(words):
    """Returns the words as one string, with " or " before the last of several ones."""
    if len(words) == 1:
        return words[0]
    return ", ".join(words[:-1]) + " or " + words[-1]


def _next_of(kind, before, nested):
    """Returns the list of what can come behind a token, "" at the beginning, within so many parentheses."""
    if kind == WORD:
        return _next_of_word(before)
    if before in ("", "(", "|"):
        return [A_LETTER] + _all_quoted("(.")
    # An item has ended, so it can have a sign behind it, and what it is in can end.
    if nested > 0:
        return [A_LETTER] + _all_quoted("()|?*.")
    return [A_LETTER] + _all_quoted("(|?*.") + [THE_END]


def _next_of_word(before):
    if before == "":
        return [A_LETTER] + _all_quoted(".")
    return [THE_END] if before == "." else [A_LETTER, THE_END]


def read_expression(text):
    """Returns the expression of the text."""
    return _read(text, BOUNDS)


def read_long(text):
    """Returns the long expression of the text."""
    return _read(text, LONG_BOUNDS)


def _read(text, bounds):
    """Returns the expression of the text, which must be in the bounds."""
    tokens = scan(text)
    _next_behind(tokens, EXPRESSION)
    most_letters, most_deep, most_parts = bounds
    letters = _letters_of(tokens)
    if len(letters) > most_letters:
        raise TextError(letters[most_letters][2], f"there are at most {most_letters} letters")
    expression = _expression_of(tokens)
    _, deep, parts = sizes_within(expression, TEXT_BOUNDS)
    end = tokens[-1][2]
    if parts > most_parts:
        raise TextError(end, f"there are at most {most_parts} parts")
    if deep > most_deep:
        raise TextError(end, "the expression is too deep")
    return expression


def _letters_of(tokens):
    """Returns the list of those of the tokens that are letters."""
    return [token for token in tokens if token[0] == "letter"]


def _expression_of(tokens):
    """Returns the expression of the tokens, which follow the grammar."""
    # For each open parenthesis, and for the whole, the rows of items that have "|" between them.
    levels = [[[]]]
    for kind, characters, _ in tokens:
        items = levels[-1][-1]
        if kind == "letter":
            items.append(characters)
        elif characters == ".":
            items.append("")
        elif characters == "(":
            levels.append([[]])
        elif characters == "|":
            levels[-1].append([])
        elif characters in SIGN_WORDS:
            items[-1] = (SIGN_WORDS[characters], items[-1])
        elif characters == ")":
            inner = _part_of(levels.pop())
            levels[-1][-1].append(inner)
    return _part_of(levels[0])


def _part_of(rows):
    """Returns the "or" of the rows, each of which is a "join" of its items."""
    parts = [row_of("join", opened_parts("join", items)) for items in rows]
    return row_of("or", opened_parts("or", parts))


def read_word(text):
    """Returns the word of the text."""
    tokens = scan(text)
    _next_behind(tokens, WORD)
    letters = _letters_of(tokens)
    if len(letters) > MOST_LETTERS:
        raise TextError(letters[MOST_LETTERS][2], f"a word has at most {MOST_LETTERS} letters")
    return "".join([characters for _, characters, _ in letters])
