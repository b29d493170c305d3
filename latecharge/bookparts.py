"""What a book tells of its purses, limits and rows."""

from latecharge.errors import NotUsable, UnknownPurse, UnknownSponsor
from latecharge.kinds import is_index, is_name, is_number
from latecharge.limitareas import has_slot, paid_inside, slots_in


def names_of(purses):
    """The names of purses, in order."""
    return tuple([purse[0] for purse in purses])


def sponsor_of(purses, name):
    """The sponsor of the purse with this name."""
    return [purse[1] for purse in purses if purse[0] == name][0]


def can_pay(purse, day, kind):
    """Whether a purse, given as its tuple, pays for this kind on this day."""
    return kind in purse[2] and purse[3] <= day <= purse[4]


def payments_of(rows):
    """The pairs of a day and shares of the paid ones of these rows."""
    return [(row[1], row[3]) for row in rows if row[0] == "paid"]


def check_purse(book, purse):
    """Raises UnknownPurse for a value that is no name of a purse of the book."""
    if purse not in names_of(book[0]):
        raise UnknownPurse(purse)


def check_sponsors(book, sponsors):
    """Raises UnknownSponsor for the first value that is no sponsor of the book."""
    known = sponsors_of(book)
    for sponsor in sponsors:
        if sponsor not in known:
            raise UnknownSponsor(sponsor)


def check_limit(book, k):
    """Raises NotUsable for a value that is not the index of a limit."""
    if not is_index(k, len(book[1])):
        raise NotUsable("limit", -1)


def check_row(book, t):
    """Raises NotUsable for a value that is not the index of a row."""
    if not is_index(t, len(book[2])):
        raise NotUsable("row", -1)


def check_day(day):
    """Raises NotUsable for a value that is no day."""
    if not is_number(day):
        raise NotUsable("day", -1)


def sponsors_of(book):
    """The set of the sponsors."""
    return tuple(sorted({purse[1] for purse in book[0]}))


def purses_of(book, sponsor):
    """The set of the names of the purses of a sponsor."""
    check_sponsors(book, (sponsor,))
    return names_of([purse for purse in book[0] if purse[1] == sponsor])


def payers_of(book, day, kind):
    """The set of the names of the purses that pay for this kind on this day."""
    check_day(day)
    if not is_name(kind):
        raise NotUsable("kind", -1)
    return names_of([purse for purse in book[0] if can_pay(purse, day, kind)])


def payers(book, t):
    """The set of the names of the purses that may pay for row t."""
    check_row(book, t)
    row = book[2][t]
    return payers_of(book, row[1], row[2])


def open_rows(book):
    """The set of the indexes of the open rows."""
    return tuple([t for t, row in enumerate(book[2]) if row[0] == "buy"])


def amount_of(book, t):
    """The amount of row t; if it is paid, the sum of its shares."""
    check_row(book, t)
    row = book[2][t]
    if row[0] == "buy":
        return row[3]
    return sum(row[3])


def paid_by(book, purse):
    """What a purse pays in all paid rows."""
    check_purse(book, purse)
    place = names_of(book[0]).index(purse)
    return sum([shares[place] for _, shares in payments_of(book[2])])


def area_of(book, k):
    """The set of the slots of limit k."""
    check_limit(book, k)
    purses, first, last, _ = book[1][k]
    return tuple([(purse, day) for purse in purses for day in range(first, last + 1)])


def left_of(book, k):
    """What limit k has left: its cap less what the paid rows pay in its area."""
    check_limit(book, k)
    limit = book[1][k]
    return limit[3] - paid_inside(limit, book[0], payments_of(book[2]))


def limits_over(book, purse, day):
    """The indexes of the limits over a slot, from the least area to the greatest one."""
    check_purse(book, purse)
    check_day(day)
    found = [(slots_in(limit), k) for k, limit in enumerate(book[1]) if has_slot(limit, purse, day)]
    return tuple([pair[1] for pair in sorted(found)])
