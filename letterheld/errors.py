"""The errors that the program raises."""


class HeldError(ValueError):
    """The base class of all errors of the program."""


class InvalidLine(HeldError):
    """A line that no journal has; the field `line` is its number, from 1."""

    def __init__(self, line):
        super().__init__(f"line {line} is not a line of a journal")
        self.line = line


class BrokenJournal(HeldError):
    """A line that does not fit the lines ahead of it; the field `line` is its number, from 1."""

    def __init__(self, line):
        super().__init__(f"line {line} does not fit the lines ahead of it")
        self.line = line


class InvalidLetter(HeldError):
    """A text that is not a letter."""


class NotHeld(HeldError):
    """A thing that the office does not hold."""


class Frozen(HeldError):
    """A thing that is called back."""


class UnknownThing(HeldError):
    """A thing that is not known."""


class InvalidQuantity(HeldError):
    """A number that is no quantity, or quantities with a wrong sum."""


class InvalidOffice(HeldError):
    """A text that is not the name of an office, or not of the right one."""


class InvalidThings(HeldError):
    """Things that cannot be joined."""


class NoLetter(HeldError):
    """A place of the net at which there is no letter."""


class InvalidCommand(HeldError):
    """A text that is not a command of a session."""
