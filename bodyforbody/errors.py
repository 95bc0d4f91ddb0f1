"""The errors of the package."""


class BodyError(ValueError):
    """What every error of this package is."""


class InvalidMachine(BodyError):
    """What was told is no machine."""

    def __init__(self, at):
        self.at = at


class InvalidRow(BodyError):
    """What was told is no row of commands."""

    def __init__(self, at):
        self.at = at


class InvalidChange(BodyError):
    """What was told is no change of states."""

    def __init__(self, at):
        self.at = at


class InvalidQuestion(BodyError):
    """An argument is not what the question wants."""

    def __init__(self, at):
        self.at = at


class InvalidText(BodyError):
    """A text is not that of a machine."""

    def __init__(self, at):
        self.at = at


class Refused(BodyError):
    """All arguments are of their kind, but what is asked cannot be told."""

    def __init__(self, at):
        self.at = at


class InvalidCommand(BodyError):
    """A command has none of the told forms."""
