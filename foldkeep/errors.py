"""The errors that the program raises."""


class FoldError(ValueError):
    """The base class of all errors of the program."""


class NotPossible(FoldError):
    """A deed of a program cannot be done."""


class NotNow(FoldError):
    """What is wished of a keeper cannot be done now."""


class NoSuchDevice(FoldError):
    """There is no device with this number."""


class NoSuchLetter(FoldError):
    """There is no letter at this place."""


class NoKeeper(FoldError):
    """A text is not the text of a keeper."""


class NoScript(FoldError):
    """A line of a script has none of the forms."""

    def __init__(self, line):
        self.line = line
