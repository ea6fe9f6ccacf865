"""The errors that the package raises."""


class BotError(ValueError):
    """The base class of all errors that the package raises."""


class SyntaxFault(BotError):
    """A text breaks the rules of the language of plans at a line and column."""

    def __init__(self, line, column):
        BotError.__init__(self, f"no plan fits at line {line}, column {column}")
        self.line = line
        self.column = column


class CheckFault(BotError):
    """A plan follows the grammar, but has an error at a line and column."""

    def __init__(self, reason, line, column):
        BotError.__init__(self, f"{reason} at line {line}, column {column}")
        self.reason = reason
        self.line = line
        self.column = column


class InvalidTick(BotError):
    """A value is not the number of a tick that is allowed here."""


class InvalidNumber(BotError):
    """A value is not a number that is allowed here."""


class TooLong(BotError):
    """A plan does not repeat early enough."""


class DifferentShelves(BotError):
    """Two plans have different numbers of cells."""


class Contradiction(BotError):
    """No start would remain possible after an observation."""


class InvalidCode(BotError):
    """A list of bytes encodes no plan, because of the byte at a place."""

    def __init__(self, place):
        BotError.__init__(self, f"no plan is encoded at place {place}")
        self.place = place


class CellFull(BotError):
    """A cell has no room for another box."""


class CellEmpty(BotError):
    """A cell has no box that could be taken away."""


class InvalidName(BotError):
    """A value cannot be the name of a snapshot."""


class UnknownName(BotError):
    """No snapshot has this name."""


class InvalidOperation(BotError):
    """An entry of a list of operations, at a place, cannot be executed."""

    def __init__(self, place):
        BotError.__init__(self, f"no operation at place {place}")
        self.place = place
