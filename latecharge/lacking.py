"""What is lacking, and which caps would help."""

from latecharge.bars import check_fits, greatest_lack
from latecharge.bookparts import check_limit
from latecharge.errors import NotUsable
from latecharge.kinds import is_buy
from latecharge.raising import raised
from latecharge.rooms import room, with_buys


def with_unit(book, k):
    """The book in which the cap of limit k is one greater."""
    return raised(book, tuple([1 if m == k else 0 for m in range(len(book[1]))]))


def helping_limits(book):
    """The set of the indexes of the limits that help."""
    lack = greatest_lack(book)
    return tuple([k for k in range(len(book[1])) if greatest_lack(with_unit(book, k)) == lack - 1])


def most_help(book, k):
    """By how much the lack is less if limit k is taken away."""
    check_limit(book, k)
    purses, limits, rows = book
    return greatest_lack(book) - greatest_lack((purses, limits[:k] + limits[k + 1:], rows))


def fits_up_to(book, day, kind):
    """The room of one wish."""
    return room(book, (day, kind))


def short_by(book, day, kind, amount):
    """How much of a further open row does not fit."""
    buy = (day, kind, amount)
    if not is_buy(buy):
        raise NotUsable("buy", 0)
    check_fits(book)
    return greatest_lack(with_buys(book, [buy]))
