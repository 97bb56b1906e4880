"""All errors of the package: a base, its families, and each error below its family."""


class LedError(ValueError):
    """The base of all errors."""


class PaperError(LedError):
    """A paper or a value is judged and found wrong."""


class WorldError(LedError):
    """A parameter is not as stated."""


class LiveError(LedError):
    """A live object refuses."""


class TextError(LedError):
    """A text does not write what it should."""


class InvalidPaper(PaperError):
    """The first entry of a judge's list that applies, and where it does."""

    def __init__(self, word, at):
        self.word = word
        self.at = at


class NotUsable(WorldError):
    """The name of the first parameter that is not as stated."""

    def __init__(self, word, at):
        self.word = word
        self.at = at


class InvalidEvent(LiveError):
    """An event that does not happen, and why."""

    def __init__(self, event, reason):
        self.event = event
        self.reason = reason


class NothingToUndo(LiveError):
    """So many events are there to be taken back."""

    def __init__(self, steps):
        self.steps = steps


class InvalidText(TextError):
    """The line, and the index of its first word that cannot stand."""

    def __init__(self, line, field):
        self.line = line
        self.field = field


class InvalidRow(TextError):
    """A row that is none of a desk."""

    def __init__(self, row):
        self.row = row
