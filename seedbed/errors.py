"""The exceptions of the program (point 2)."""


class SeedError(ValueError):
    """The base class of all exceptions that the program raises."""


class BadText(SeedError):
    """A text is not the written form of a program."""


class BadProgram(SeedError):
    """A program is not valid."""


class BadCode(SeedError):
    """A code is not valid."""


class BadOctets(SeedError):
    """A list of octets is not the packed form of a valid code."""


class OutOfRange(SeedError):
    """An argument names or counts something that does not exist."""


class IsDone(SeedError):
    """A coroutine that is done was resumed."""


class BadCommand(SeedError):
    """A command is not one that a desk answers."""
