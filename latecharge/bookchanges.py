"""Books that differ from a book by one change."""

from latecharge.bookchecker import lets_book
from latecharge.bookparts import check_limit, check_row, names_of
from latecharge.errors import NotUsable
from latecharge.kinds import is_numbers, is_purse


def checked(thing):
    """The value itself, if it is a book; InvalidPaper otherwise."""
    lets_book(thing)
    return thing


def check_open(book, t):
    """Raises NotUsable for a value that is not the index of an open row."""
    check_row(book, t)
    if book[2][t][0] != "buy":
        raise NotUsable("row", -1)


def put(things, at, thing):
    """A tuple with another element at this place."""
    return things[:at] + (thing,) + things[at + 1:]


def with_row(book, row):
    """The book with a row behind the others."""
    purses, limits, rows = book
    return checked((purses, limits, rows + (row,)))


def without_row(book, t):
    """The book without row t."""
    check_row(book, t)
    purses, limits, rows = book
    return checked((purses, limits, rows[:t] + rows[t + 1:]))


def with_amount(book, t, amount):
    """The book in which the open row t has this amount."""
    check_open(book, t)
    purses, limits, rows = book
    word, day, kind, _ = rows[t]
    return checked((purses, limits, put(rows, t, (word, day, kind, amount))))


def with_paid(book, t, shares):
    """The book in which the open row t is paid with these shares."""
    check_open(book, t)
    purses, limits, rows = book
    _, day, kind, amount = rows[t]
    if not is_numbers(shares) or sum(shares) != amount:
        raise NotUsable("shares", -1)
    return checked((purses, limits, put(rows, t, ("paid", day, kind, shares))))


def with_share(row, at):
    """A row for which a further purse, at this place, pays nothing."""
    word, day, kind, shares = row
    if word == "buy":
        return row
    return (word, day, kind, shares[:at] + (0,) + shares[at:])


def with_purse(book, purse):
    """The book with a purse more, in its place."""
    purses, limits, rows = book
    names = names_of(purses)
    # Behind the others, what is no further purse is refused by the checker with the right word.
    if not is_purse(purse) or purse[0] in names:
        return checked((purses + (purse,), limits, rows))
    at = len([name for name in names if name < purse[0]])
    paid = tuple([with_share(row, at) for row in rows])
    return checked((purses[:at] + (purse,) + purses[at:], limits, paid))


def with_limit(book, limit):
    """The book with a limit behind the others."""
    purses, limits, rows = book
    return checked((purses, limits + (limit,), rows))


def with_cap(book, k, cap):
    """The book in which limit k has this cap."""
    check_limit(book, k)
    purses, limits, rows = book
    names, first, last, _ = limits[k]
    return checked((purses, put(limits, k, (names, first, last, cap)), rows))
