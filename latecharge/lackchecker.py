"""The checker of lack papers."""

from latecharge.barchecker import is_bar, lets_bar
from latecharge.bookchanges import put
from latecharge.bookparts import open_rows
from latecharge.chargings import is_good
from latecharge.errors import InvalidPaper
from latecharge.kinds import is_numbers


def are_lesser(book, thing):
    """Whether a value is a tuple with a number for each open row, at most its amount."""
    opened = open_rows(book)
    if not is_numbers(thing) or len(thing) != len(opened):
        return False
    return all([amount <= book[2][t][3] for t, amount in zip(opened, thing)])


def with_amounts(book, amounts):
    """The book in which the open rows have these amounts."""
    purses, limits, rows = book
    for t, amount in zip(open_rows(book), amounts):
        rows = put(rows, t, rows[t][:3] + (amount,))
    return (purses, limits, rows)


def lets_lack(book, thing):
    """The lack of a lack paper; InvalidPaper for any other value."""
    if not isinstance(thing, tuple) or len(thing) != 3:
        raise InvalidPaper("shape", -1)
    amounts, charging, bar = thing
    if not are_lesser(book, amounts):
        raise InvalidPaper("amounts", -1)
    if not is_good(with_amounts(book, amounts), charging):
        raise InvalidPaper("charging", -1)
    if bar is not None and not is_bar(book, bar):
        raise InvalidPaper("bar", -1)
    lack = 0 if bar is None else lets_bar(book, bar)
    if lack != sum([book[2][t][3] for t in open_rows(book)]) - sum(amounts):
        raise InvalidPaper("lack", -1)
    return lack
