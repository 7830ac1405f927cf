"""All errors of the package, in their families."""


class ActError(ValueError):
    """The base class of all errors of the package."""


class PaperError(ActError):
    """A paper or another value that a checker does not accept."""


class TableError(ActError):
    """An argument that is not as the function asks."""


class LiveError(ActError):
    """Something that a live table cannot do."""


class TextError(ActError):
    """A text that tells nothing."""


class InvalidPaper(PaperError):
    """The first entry of a checker's list that applies, and where."""

    def __init__(self, word, at):
        self.word = word
        self.at = at


class NotUsable(TableError):
    """The name of the first parameter that is not as stated."""

    def __init__(self, word, at):
        self.word = word
        self.at = at


class InvalidEvent(LiveError):
    """An event that is not possible, and why."""

    def __init__(self, event, reason):
        self.event = event
        self.reason = reason


class NothingToUndo(LiveError):
    """There is no event to take back."""

    def __init__(self, steps):
        self.steps = steps


class InvalidText(TextError):
    """The first word that cannot stand, or that is missing."""

    def __init__(self, line, field):
        self.line = line
        self.field = field


class InvalidRow(TextError):
    """What a desk does not understand."""

    def __init__(self, row):
        self.row = row
