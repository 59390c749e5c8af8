"""The errors of the package: each keeps its fields as the very objects that it was given."""


class TakeError(ValueError):
    """The base class of all errors of the package."""


class PaperError(TakeError):
    """The family of what is wrong with a paper."""


class BookError(TakeError):
    """The family of what is wrong with the arguments about a book."""


class LiveError(TakeError):
    """The family of what a live book refuses."""


class TextError(TakeError):
    """The family of what cannot be read."""


class InvalidPaper(PaperError):
    """A paper that is not accepted: for the first entry of its list that applies."""

    def __init__(self, word, at):
        self.word = word
        self.at = at


class NotUsable(BookError):
    """A parameter, by its name, that is not as it has to be."""

    def __init__(self, word, at):
        self.word = word
        self.at = at


class Unlike(BookError):
    """A rule that does not fit, shown by a clash."""

    def __init__(self, clash):
        self.clash = clash


class Untied(BookError):
    """A part, as a lot, that no tie holds together."""

    def __init__(self, lot):
        self.lot = lot


class InvalidEvent(LiveError):
    """An event that is refused, and the reason."""

    def __init__(self, event, reason):
        self.event = event
        self.reason = reason


class NothingToUndo(LiveError):
    """So many steps back are more than there are."""

    def __init__(self, steps):
        self.steps = steps


class InvalidText(TextError):
    """A word that cannot stand, by its line and its field."""

    def __init__(self, line, field):
        self.line = line
        self.field = field


class InvalidRow(TextError):
    """A row that a desk cannot read."""

    def __init__(self, row):
        self.row = row
