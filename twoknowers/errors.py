"""The errors of the package (point 5)."""


class KnowError(ValueError):
    """Every error of the package; `value` tells what was wrong."""

    def __init__(self, value):
        # No text is made of the value here: Python refuses to write very long integers,
        # and an act that is not allowed may hold one.
        self.value = value


class BadProgram(KnowError):
    """A program is not right; `value` is the name of its first part that is not."""


class NotAllowed(KnowError):
    """A state does not allow an act; `value` is the act."""


class BadObserver(KnowError):
    """A pair is not an observer; `value` is the pair."""


class BadLine(KnowError):
    """A text is not the text of a program; `value` is the number of a line."""
