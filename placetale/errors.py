"""The refusals of the program."""


class TaleError(ValueError):
    """Any refusal."""


class BadTale(TaleError):
    """What was told is no tale."""


class BadText(TaleError):
    """A text is not written as a tale is; row is the number of its first wrong row, from 0."""

    def __init__(self, row):
        super().__init__(f"row {row} is not written as a tale is")
        self.row = row


class NoDeed(TaleError):
    """A deed can't be done in a state."""


class TooMany(TaleError):
    """There is more to look through than the program takes on."""
