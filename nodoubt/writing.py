"""Writing the texts of expressions and words."""

from nodoubt.expressions import check_long, check_word

# What stands for nothing, as a text needs a token.
NOTHING = "."


def expression_text(expression):
    """Returns the text of the long expression."""
    check_long(expression)
    return _text_of(expression)


def _text_of(part):
    if isinstance(part, str):
        return part if part != "" else NOTHING
    word, inner = part
    if word == "join":
        return "".join([_text_within(each, ("or",)) for each in inner])
    if word == "or":
        return "|".join([_text_of(each) for each in inner])
    return _text_within(inner, ("join", "or")) + ("?" if word == "maybe" else "*")


def _text_within(part, words):
    """Returns the text of the part, in parentheses if it has one of the words."""
    if isinstance(part, tuple) and part[0] in words:
        return "(" + _text_of(part) + ")"
    return _text_of(part)


def word_text(word):
    """Returns the text of the word."""
    check_word(word)
    return word if word != "" else NOTHING
