"""The errors that the program raises."""


class PastError(ValueError):
    """The base class of all errors of the program."""


# Python itself keeps what an error was created with, so that it is shown and can be copied:
# therefore none of these passes it on to the class above.


class BadValue(PastError):
    """An argument has a wrong form; `name` tells which one."""

    def __init__(self, name):
        self.name = name


class TooLarge(PastError):
    """A bound is exceeded; `what` tells of what there is too much."""

    def __init__(self, what):
        self.what = what


class NotPossible(PastError):
    """What is asked for cannot be done; `why` tells the reason."""

    def __init__(self, why):
        self.why = why


class TextError(PastError):
    """A text has a problem, told by `words`, at its `column`, counted from 1."""

    def __init__(self, column, words):
        self.column = column
        self.words = words
