"""The errors: a base class, four families, and the errors with their fields."""


class CardError(ValueError):
    """The base class of all errors."""


class PaperError(CardError):
    """The family of what a checker does not accept."""


class BookError(CardError):
    """The family of what can not be asked of a book."""


class EventError(CardError):
    """The family of what can not happen to a card."""


class TextError(CardError):
    """The family of what can not be read."""


class InvalidPaper(PaperError):
    """A value is not what a checker looks for: a word says why, and where."""

    def __init__(self, word, at):
        self.word = word
        self.at = at


class NoCharging(BookError):
    """A book has to fit and does not; lack is the greatest lack of a bar."""

    def __init__(self, lack):
        self.lack = lack


class UnknownPurse(BookError):
    """A value is no name of a purse of the book."""

    def __init__(self, purse):
        self.purse = purse


class UnknownSponsor(BookError):
    """A value is no sponsor of the book."""

    def __init__(self, sponsor):
        self.sponsor = sponsor


class NotUsable(BookError):
    """An argument can not be used: a word says which one, and where."""

    def __init__(self, word, at):
        self.word = word
        self.at = at


class InvalidEvent(EventError):
    """An event is not possible, for this reason."""

    def __init__(self, event, reason):
        self.event = event
        self.reason = reason


class NothingToUndo(EventError):
    """There are not so many events that could be taken back."""

    def __init__(self, steps):
        self.steps = steps


class InvalidText(TextError):
    """A line, and the word in it, that can not stand there."""

    def __init__(self, line, field):
        self.line = line
        self.field = field


class InvalidRow(TextError):
    """A row that can not be said to a desk."""

    def __init__(self, row):
        self.row = row
