"""The errors that the program raises."""


class LeastError(ValueError):
    """The base class of all errors of the program."""


class BadValue(LeastError):
    """The argument with this name has a wrong form."""

    def __init__(self, name):
        super().__init__(f"wrong argument: {name}")
        self.name = name


class TooLarge(LeastError):
    """A bound for what can be searched or kept is exceeded."""

    def __init__(self, what):
        super().__init__(f"too large: {what}")
        self.what = what


class NotPossible(LeastError):
    """An action cannot be made now."""

    def __init__(self, why):
        super().__init__(f"not possible: {why}")
        self.why = why


class TextError(LeastError):
    """A text has a problem at this column, counted from 1."""

    def __init__(self, column, words):
        super().__init__(f"column {column}: {words}")
        self.column = column
        self.words = words
