"""The checker of fit papers."""

from latecharge.barchecker import lets_bar
from latecharge.chargings import lets_charging
from latecharge.errors import InvalidPaper


def lets_fit(book, thing):
    """Whether a book fits, by a fit paper; InvalidPaper for any other value."""
    if not isinstance(thing, tuple) or len(thing) != 2:
        raise InvalidPaper("shape", -1)
    word, shown = thing
    if not isinstance(shown, tuple) or word not in ("charging", "bar"):
        raise InvalidPaper("shape", -1)
    if word == "charging":
        lets_charging(book, shown)
        return True
    lets_bar(book, shown)
    return False
