"""The refusals: each sort stands under FolkError, and under no other sort."""


class FolkError(ValueError):
    """Any refusal."""


class NoName(FolkError):
    """A name that isn't there, that is there already, or a thing that is none."""

    def __init__(self, name):
        # The message doesn't show the name: it may be a thing of any kind, nested deeply.
        FolkError.__init__(self, "this name is refused")
        self.name = name


class NoText(FolkError):
    """A text that isn't written as it should be, or a thing that is no text."""

    def __init__(self, row):
        FolkError.__init__(self, f"row {row} is refused")
        self.row = row


class NoReason(FolkError):
    """A reason that isn't there, that is there already, or a thing that is none."""


class NoUndo(FolkError):
    """No deed is left that could be taken back."""


class NoRoom(FolkError):
    """A part that is too large for the best joining to be sought."""


class NoStep(FolkError):
    """A step that can't be done."""


class NoRow(FolkError):
    """A row of words that the desk doesn't know."""
