"""The exceptions of the program."""


class FloodError(ValueError):
    """The base class of all exceptions that the program raises."""


class OutOfRange(FloodError):
    """A number, a length or an index is outside of what is allowed."""


class BadSystem(FloodError):
    """A system is not valid."""


class BadRun(FloodError):
    """A step or a list of steps is not a run."""


class BadBook(FloodError):
    """A list of integers is not the book of a certificate."""


class BadCommand(FloodError):
    """A desk does not understand a command."""
