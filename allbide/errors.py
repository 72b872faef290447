"""The errors of the program."""


class BideError(ValueError):
    """The base class of all errors of the program."""


class BadValue(BideError):
    """An argument has a wrong form; `name` is the name of the argument."""

    def __init__(self, name):
        self.name = name


class TooLarge(BideError):
    """A bound would be exceeded; `what` tells of what there would be too many."""

    def __init__(self, what):
        self.what = what


class NotPossible(BideError):
    """The arguments have the right form, but what they ask for cannot be; `why` tells the reason."""

    def __init__(self, why):
        self.why = why


class TextError(BideError):
    """A text cannot be read; `column` tells where, counted from 1, and `words` tell the problem."""

    def __init__(self, column, words):
        self.column = column
        self.words = words
