"""The errors of the program, one class for each kind of failure."""


class WorthError(ValueError):
    """The base of all errors of the program; `value` is what was wrong."""

    def __init__(self, value):
        self.value = value


class InvalidNumber(WorthError):
    """A tuple is no number, or an integer is out of its range."""


class InvalidSigns(WorthError):
    """A text does not tell signs."""


class UnknownSign(WorthError):
    """A sign is none of those that are wanted."""


class InvalidMachine(WorthError):
    """The parts of a machine or of a tariff do not fit together."""


class UnlikeSigns(WorthError):
    """Things over unlike signs are put together."""


class Endless(WorthError):
    """A sum would have no end."""


class InvalidPattern(WorthError):
    """A pattern has a weight where none may be."""


class InvalidBook(WorthError):
    """The words of a code book do not fit."""


class InvalidName(WorthError):
    """A text is not a name."""


class DoubleName(WorthError):
    """A name is already taken."""


class UnknownName(WorthError):
    """Nothing has this name."""


class InvalidNote(WorthError):
    """An answer is wrong, or one that is wanted is missing."""


class InvalidSource(WorthError):
    """A tariff is not a source of chances."""


class NoChance(WorthError):
    """A message has the chance 0."""


class NothingToUndo(WorthError):
    """No call stands that could be taken back."""


class Unreadable(WorthError):
    """A text is not one of those that can be read."""
