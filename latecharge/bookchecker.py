"""The checker of books."""

from latecharge.bookparts import can_pay, names_of, payments_of
from latecharge.errors import InvalidPaper
from latecharge.kinds import is_limit, is_purse, is_row
from latecharge.limitareas import has_common, is_inside, is_same, paid_inside


def is_book_by_form(thing):
    """Whether a value is a tuple of tuples of purses, of limits and of rows by form."""
    if not isinstance(thing, tuple) or len(thing) != 3 or not all([isinstance(part, tuple) for part in thing]):
        return False
    purses, limits, rows = thing
    if not all([is_purse(purse) for purse in purses]) or not all([is_limit(limit) for limit in limits]):
        return False
    return all([is_row(row) for row in rows])


def check_purse_names(purses):
    """Raises InvalidPaper if there is no purse, or if their names are not ascending."""
    names = list(names_of(purses))
    if len(names) == 0 or names != sorted(set(names)):
        raise InvalidPaper("purses", -1)


def are_crossing(limit, other):
    """Whether two areas have a slot in common, but neither is within the other one, or both are the same."""
    if not has_common(limit, other):
        return False
    return is_same(limit, other) or not (is_inside(limit, other) or is_inside(other, limit))


def check_limit_at(purses, limits, k):
    """Raises InvalidPaper if limit k does not go with the purses, or with the limits before it."""
    limit = limits[k]
    names = names_of(purses)
    if not all([name in names for name in limit[0]]):
        raise InvalidPaper("purse", k)
    if len({purse[1] for purse in purses if purse[0] in limit[0]}) > 1:
        raise InvalidPaper("sponsor", k)
    for j in range(k):
        if are_crossing(limits[j], limit):
            raise InvalidPaper("area", (j, k))


def has_right_shares(purses, row):
    """Whether a row is open, or has one share for each purse, 0 for those that may not pay for it."""
    word, day, kind, shares = row
    if word == "buy":
        return True
    if len(shares) != len(purses):
        return False
    return all([share == 0 or can_pay(purse, day, kind) for purse, share in zip(purses, shares)])


def lets_book(thing):
    """How many rows a book has; InvalidPaper for any other value."""
    if not is_book_by_form(thing):
        raise InvalidPaper("shape", -1)
    purses, limits, rows = thing
    check_purse_names(purses)
    for k in range(len(limits)):
        check_limit_at(purses, limits, k)
    for t, row in enumerate(rows):
        if not has_right_shares(purses, row):
            raise InvalidPaper("shares", t)
    payments = payments_of(rows)
    for k, limit in enumerate(limits):
        if paid_inside(limit, purses, payments) > limit[3]:
            raise InvalidPaper("over", k)
    return len(rows)
