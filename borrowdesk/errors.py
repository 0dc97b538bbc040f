"""The refusals of what is no sheet."""


class DeskError(ValueError):
    """Any refusal; its field at is the number of the row that is refused."""

    def __init__(self, at):
        ValueError.__init__(self, f"row {at}")
        self.at = at


class NoRow(DeskError):
    """What stands there is none of the rows of a sheet."""


class NoBlock(DeskError):
    """An end without an open block, or an or that is not straight within an either."""


class NoWord(DeskError):
    """A word that stands for nothing there, or for no hand where a hand is asked for."""


class Taken(DeskError):
    """The word of a lend or of a pick stands for something there already."""


class Narrow(DeskError):
    """A hand to read is asked to change, or to be the source of a hand to write."""


class NoEnd(DeskError):
    """The block that the row opened is still open behind the last row."""
