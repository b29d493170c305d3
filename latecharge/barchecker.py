"""The checker of bars."""

from latecharge.bookparts import amount_of, can_pay, left_of, open_rows, sponsors_of
from latecharge.errors import InvalidPaper
from latecharge.kinds import is_index, is_integer
from latecharge.limitareas import has_slot, is_inside


def are_integers(thing):
    """Whether a value is a tuple of integers."""
    return isinstance(thing, tuple) and all([is_integer(part) for part in thing])


def check_some(book, some):
    """Raises InvalidPaper if integers are no set of indexes of open rows."""
    opened = open_rows(book)
    for n, t in enumerate(some):
        if t not in opened or (n > 0 and t <= some[n - 1]):
            raise InvalidPaper("row", n)


def check_limit_apart(book, limits, n):
    """Raises InvalidPaper if the area of element n is within that of one before it, or the other way round."""
    limit = book[1][limits[n]]
    for m in range(n):
        before = book[1][limits[m]]
        if is_inside(limit, before) or is_inside(before, limit):
            raise InvalidPaper("within", (m, n))


def check_limit_known(book, limits, n):
    """Raises InvalidPaper if element n is not the index of a limit, or not greater than the one before."""
    if not is_index(limits[n], len(book[1])) or (n > 0 and limits[n] <= limits[n - 1]):
        raise InvalidPaper("limit", n)


def check_limits_apart(book, limits):
    """Raises InvalidPaper if integers are no set of indexes of limits, or if one of them is within another one."""
    for n in range(len(limits)):
        check_limit_known(book, limits, n)
        check_limit_apart(book, limits, n)


def first_outside(book, day, kind, limits, sponsors):
    """The place of the first purse of sponsors that may pay for a kind on a day outside of these limits, or None."""
    for j, purse in enumerate(book[0]):
        inside = any([has_slot(book[1][k], purse[0], day) for k in limits])
        if purse[1] in sponsors and can_pay(purse, day, kind) and not inside:
            return j
    return None


def check_slots(book, some, limits, sponsors):
    """Raises InvalidPaper if a slot of sponsors that may pay for one of some rows is outside of these limits."""
    for t in some:
        row = book[2][t]
        j = first_outside(book, row[1], row[2], limits, sponsors)
        if j is not None:
            raise InvalidPaper("slot", (t, j))


def lets_bar(book, thing):
    """The lack of a bar; InvalidPaper for any other value."""
    if not isinstance(thing, tuple) or len(thing) != 2 or not all([are_integers(part) for part in thing]):
        raise InvalidPaper("shape", -1)
    some, limits = thing
    check_some(book, some)
    check_limits_apart(book, limits)
    check_slots(book, some, limits, sponsors_of(book))
    lack = sum([amount_of(book, t) for t in some]) - sum([left_of(book, k) for k in limits])
    if lack <= 0:
        raise InvalidPaper("lack", -1)
    return lack


def is_bar(book, thing):
    """Whether a value is a bar."""
    try:
        lets_bar(book, thing)
    except InvalidPaper:
        return False
    return True
