"""The errors that the package raises."""


class MoveError(ValueError):
    """Something that was passed is not what it has to be."""


class InvalidMover(MoveError):
    """There is no such mover, or a value is not a mover."""


class InvalidReader(MoveError):
    """There is no such reader, or a value is not a reader that fits."""


class InvalidStore(MoveError):
    """There is no such store, or a value is not a store."""


class InvalidOperation(MoveError):
    """An operation cannot be done with this value, or not now."""


class ParseError(MoveError):
    """A value is not the text of what is read."""


class InvalidCommand(MoveError):
    """A value is no command of the shell."""


class TornJournal(MoveError):
    """A value is not the beginning of a journal."""


class InvalidNumber(IndexError):
    """A value is not a number that is allowed here."""

    def __init__(self, value):
        self.value = value


class UnknownName(KeyError):
    """A value is not a name that is known here."""

    def __init__(self, name):
        self.name = name


class TooMany(OverflowError):
    """There are more of something than the limit."""

    def __init__(self, limit):
        self.limit = limit


class Waits(RuntimeError):
    """A group has to wait for these readers."""

    def __init__(self, readers):
        self.readers = readers


class Unreadable(ArithmeticError):
    """Something cannot be read, as this paper shows."""

    def __init__(self, paper):
        self.paper = paper


class NothingToUndo(LookupError):
    """There are not so many events to take back."""

    def __init__(self, many):
        self.many = many
