"""The checker of chargings, and what is paid by one."""

from latecharge.bookparts import can_pay, check_limit, check_purse, names_of, open_rows, payments_of
from latecharge.errors import InvalidPaper
from latecharge.kinds import is_numbers
from latecharge.limitareas import paid_inside


def payments_with(book, charging):
    """The pairs of a day and shares of the paid rows, and of the open ones by a charging."""
    rows = book[2]
    return payments_of(rows) + [(rows[t][1], shares) for t, shares in zip(open_rows(book), charging)]


def check_shares(purses, row, shares, i):
    """Raises InvalidPaper if the open row i can not be paid with these numbers."""
    _, day, kind, amount = row
    if len(shares) != len(purses):
        raise InvalidPaper("purses", i)
    for j, share in enumerate(shares):
        if share > 0 and not can_pay(purses[j], day, kind):
            raise InvalidPaper("payer", (i, j))
    if sum(shares) != amount:
        raise InvalidPaper("amount", i)


def lets_charging(book, thing):
    """What is paid in the area of each limit, if a value is a good charging; InvalidPaper otherwise."""
    purses, limits, rows = book
    if not isinstance(thing, tuple) or not all([is_numbers(shares) for shares in thing]):
        raise InvalidPaper("shape", -1)
    opened = open_rows(book)
    if len(thing) != len(opened):
        raise InvalidPaper("many", -1)
    for i, t in enumerate(opened):
        check_shares(purses, rows[t], thing[i], i)
    payments = payments_with(book, thing)
    paid = tuple([paid_inside(limit, purses, payments) for limit in limits])
    for k, limit in enumerate(limits):
        if paid[k] > limit[3]:
            raise InvalidPaper("limit", k)
    return paid


def is_good(book, thing):
    """Whether a value is a good charging."""
    try:
        lets_charging(book, thing)
    except InvalidPaper:
        return False
    return True


def paid_in(book, charging, k):
    """What is paid in the area of limit k by a charging and by the paid rows."""
    check_limit(book, k)
    return paid_inside(book[1][k], book[0], payments_with(book, charging))


def paid_from(book, charging, purse):
    """What a purse pays on all days by a charging and in the paid rows."""
    check_purse(book, purse)
    place = names_of(book[0]).index(purse)
    return sum([shares[place] for _, shares in payments_with(book, charging)])
