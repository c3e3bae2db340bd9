"""The tokens of the texts of expressions and words."""

from nodoubt.errors import BadValue, TextError
from nodoubt.expressions import is_letter

MOST_CHARACTERS = 400
MOST_NESTED = 20

BLANK = " "
SIGNS = "()|?*."


def scan(text):
    """Returns the list of the tokens of the text, each with its kind, its characters and its column."""
    check_text(text)
    tokens = []
    nested = 0
    for column, character in enumerate(text, start=1):
        if character != BLANK:
            tokens.append((_kind_of(character, column), character, column))
        if character == "(":
            if nested == MOST_NESTED:
                raise TextError(column, "nested too deep")
            nested += 1
        # A sign that closes nothing is for the grammar to find.
        if character == ")" and nested > 0:
            nested -= 1
    tokens.append(("end", "", len(text) + 1))
    return tokens


def check_text(value):
    """Raises BadValue if the value is not a text."""
    if not isinstance(value, str) or len(value) > MOST_CHARACTERS or "\n" in value:
        raise BadValue("text")


def _kind_of(character, column):
    """Returns the kind of the token that stands at the column."""
    if is_letter(character):
        return "letter"
    if character in SIGNS:
        return "sign"
    raise TextError(column, "no token begins here")
