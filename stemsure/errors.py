"""The errors of the package."""


class StemError(Exception):
    """The base class of all errors of the package."""


class BadValue(StemError):
    """An argument is not as described; at is its position."""

    def __init__(self, at):
        self.at = at


class BadText(StemError):
    """A text is not that of a book; at is the number of the first wrong line."""

    def __init__(self, at):
        self.at = at


class BadPaper(StemError):
    """A paper is not right for its bound; at is the number of the first wrong line."""

    def __init__(self, at):
        self.at = at


class NoStem(StemError):
    """No entry has this stem; word is what was passed."""

    def __init__(self, word):
        self.word = word


class TakenStem(StemError):
    """An entry has this stem already; word is what was passed."""

    def __init__(self, word):
        self.word = word


class TooMany(StemError):
    """There are more than the described number."""
