"""The refusals of the program."""


class LineError(ValueError):
    """What every refusal is."""


class NotValid(LineError):
    """An argument is outside of its bounds."""


class Broken(LineError):
    """A memory does not contain what it should."""
