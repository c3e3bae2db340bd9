"""The errors that the program raises."""


class DoubtError(ValueError):
    """The base class of all errors of the program."""


class BadValue(DoubtError):
    """An argument has a wrong form."""

    def __init__(self, name):
        super().__init__(f"wrong value: {name}")
        self.name = name


class TooLarge(DoubtError):
    """There is more of something than the program goes along with."""

    def __init__(self, what):
        super().__init__(f"too large: {what}")
        self.what = what


class NotPossible(DoubtError):
    """What is asked for cannot be done."""

    def __init__(self, why):
        super().__init__(f"not possible: {why}")
        self.why = why


class TextError(DoubtError):
    """A text has a problem at a column."""

    def __init__(self, column, words):
        super().__init__(f"column {column}: {words}")
        self.column = column
        self.words = words
