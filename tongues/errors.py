"""The errors that several parts of the package raise."""


class TongueError(ValueError):
    """The base of all errors of the package."""


class BadChange(TongueError):
    """A change has a wrong piece: its index, and what is wrong with it."""

    def __init__(self, number, reason):
        self.number = number
        self.reason = reason


class BadPattern(TongueError):
    """A text is no pattern: the position at which it goes wrong."""

    def __init__(self, position):
        self.position = position


class BadLexer(TongueError):
    """A lexer is wrong: the index of a word or rule, or None, and what is wrong."""

    def __init__(self, number, reason):
        self.number = number
        self.reason = reason


class TooManyStates(TongueError):
    """A mode of a lexer has too many states: the name of the mode."""

    def __init__(self, mode):
        self.mode = mode


class TooLong(TongueError):
    """A text has too many characters or too many tokens."""


class TooDeep(TongueError):
    """Too many rules are entered, or too many rows of a tree stand one within the other."""
