"""The errors that the package raises."""


class LeftError(ValueError):
    """Whatever the package refuses."""


class InvalidBook(LeftError):
    """No book."""

    def __init__(self, at):
        self.at = at


class InvalidCrowd(LeftError):
    """No crowd, or no row."""

    def __init__(self, at):
        self.at = at


class InvalidRun(LeftError):
    """No run, or no index of a batch."""

    def __init__(self, at):
        self.at = at


class InvalidGroup(LeftError):
    """No naming."""

    def __init__(self, at):
        self.at = at


class InvalidQuestion(LeftError):
    """Nothing that can be asked."""

    def __init__(self, at):
        self.at = at


class InvalidText(LeftError):
    """No text of a book."""

    def __init__(self, at):
        self.at = at


class NotSafe(LeftError):
    """A book that is not safe where a safe one is wanted."""

    def __init__(self, at):
        self.at = at


class Refused(LeftError):
    """Something that is not there, or too much."""

    def __init__(self, at):
        self.at = at


class InvalidCommand(LeftError):
    """No command of a desk."""
