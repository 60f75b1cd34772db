"""The errors of the program (c10)."""


class TableError(ValueError):
    """The base of all other errors of the program."""


class BadText(TableError):
    """A text that is not one of its language: the number of the token, and why."""

    def __init__(self, token, reason):
        self.token = token
        self.reason = reason


class BadDefinition(TableError):
    """A definition that does not fit its columns: its number, and why."""

    def __init__(self, number, reason):
        self.number = number
        self.reason = reason


class BadFrame(TableError):
    """A frame that is not right for its keys."""


class BadFit(TableError):
    """Changes or moves that do not fit what they are applied to."""


class BadDeed(TableError):
    """A deed that is refused, and why."""

    def __init__(self, reason):
        self.reason = reason


class BadPaper(TableError):
    """A paper that is not right: the number of what fails."""

    def __init__(self, number):
        self.number = number


class BadJournal(TableError):
    """A journal with a line that is refused: the place of the line."""

    def __init__(self, place):
        self.place = place


class BadArgument(TableError):
    """An argument that a function cannot take, and why."""

    def __init__(self, reason):
        self.reason = reason
