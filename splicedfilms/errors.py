"""The errors that the program raises."""


class FilmError(ValueError):
    """The common base of all errors of the program; `value` is what was wrong."""

    def __init__(self, value):
        self.value = value


class InvalidFilm(FilmError):
    """A text is no film."""


class InvalidPiece(FilmError):
    """A text is no piece."""


class InvalidRule(FilmError):
    """A rule has not four things, or its front or its back is empty."""


class UnknownStrip(FilmError):
    """There is no strip, or no film on a desk, of this number."""


class UnknownRule(FilmError):
    """There is no rule of this index."""


class InvalidTable(FilmError):
    """A tuple is no table."""


class InvalidNumber(FilmError):
    """A number is too small."""


class NoSplice(FilmError):
    """A film may not be cut here."""


class NothingToUndo(FilmError):
    """There is no call to take back."""


class Unreadable(FilmError):
    """No box and no tree has this text."""
