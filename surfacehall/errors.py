"""The refusals: each kind has a class of its own, and every one of them is a HallError."""


class HallError(ValueError):
    """Any refusal."""


class BadSize(HallError):
    """A screen can't be that wide or that high."""


class TooMany(HallError):
    """There are more clients, or lists of letters, than there can be."""


class NoClient(HallError):
    """There is no such client, or it fell."""


class BadLetter(HallError):
    """No letter is written like that."""


class BadTouch(HallError):
    """No touch is like that, or the finger isn't where it would have to be."""


class BadKey(HallError):
    """There is no key of that number."""


class BadText(HallError):
    """A text has a row, `line` from 0, that is no client's letter."""

    def __init__(self, line):
        super().__init__(f"row {line} is no client's letter")
        self.line = line
