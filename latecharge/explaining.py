"""Which rows and limits stand in the way of a wish."""

from latecharge.bookchanges import put
from latecharge.bookparts import open_rows
from latecharge.lacking import with_unit
from latecharge.rooms import room, room_in


def with_unit_less(book, t):
    """The book in which the amount of the open row t is one less."""
    purses, limits, rows = book
    word, day, kind, amount = rows[t]
    return (purses, limits, put(rows, t, (word, day, kind, amount - 1)))


def rows_in_way(book, day, kind):
    """The set of the indexes of the open rows that stand in the way of a wish."""
    wish = (day, kind)
    most = room(book, wish)
    if most is None:
        return ()
    rows = [t for t in open_rows(book) if book[2][t][3] > 0]
    return tuple([t for t in rows if room_in(with_unit_less(book, t), (wish,)) == most + 1])


def limits_in_way(book, day, kind):
    """The set of the indexes of the limits that stand in the way of a wish."""
    wish = (day, kind)
    most = room(book, wish)
    if most is None:
        return ()
    return tuple([k for k in range(len(book[1])) if room_in(with_unit(book, k), (wish,)) == most + 1])
