"""The errors of the package.

An error that keeps what it takes has a fixed message: some values, such as very
long integers, cannot be written out.
"""


class TurnError(ValueError):
    """An argument is none of what is asked for."""


class InvalidWord(TurnError):
    """A value is no word."""


class InvalidMachine(TurnError):
    """A value is no machine, or makes none."""


class InvalidBox(TurnError):
    """A value is no box, or makes none."""


class InvalidOperation(TurnError):
    """What is asked for does not fit what it is asked of."""


class ParseError(TurnError):
    """A line of a text cannot stand where it stands."""

    def __init__(self, line):
        super().__init__("the text cannot be read")
        self.line = line


class UnknownName(KeyError):
    """Nothing has this name."""

    def __init__(self, name):
        super().__init__("nothing has this name")
        self.name = name


class GoesRound(LookupError):
    """A table has a turn where none may be."""

    def __init__(self, turn):
        super().__init__("the table goes round")
        self.turn = turn


class InvalidNumber(RuntimeError):
    """A value is no integer, or none of those that are let."""

    def __init__(self, value):
        super().__init__("the value is no number that is let here")
        self.value = value


class TooMany(OverflowError):
    """There is more of something than a limit lets."""

    def __init__(self, limit):
        super().__init__("there are more than the limit lets")
        self.limit = limit


class NothingToUndo(IndexError):
    """There are not so many changes."""

    def __init__(self, many):
        super().__init__("there are not so many changes")
        self.many = many


class Refused(ArithmeticError):
    """What is asked for does not exist, and the reason tells why."""

    def __init__(self, reason):
        super().__init__("there is a reason against it")
        self.reason = reason
