"""The checker of raise papers."""

from latecharge.bookparts import amount_of, can_pay, left_of, open_rows
from latecharge.chargings import is_good
from latecharge.errors import InvalidPaper
from latecharge.kinds import is_index, is_numbers
from latecharge.limitareas import has_slot
from latecharge.raising import is_raise, raised


def are_limits(book, thing):
    """Whether a value is a set of indexes of limits."""
    if not isinstance(thing, tuple) or not all([is_index(k, len(book[1])) for k in thing]):
        return False
    return list(thing) == sorted(set(thing))


def has_level(book, row, level, limits):
    """Whether each slot that may pay for a row is in the areas of at least so many of some limits."""
    _, day, kind, _ = row
    payers = [purse[0] for purse in book[0] if can_pay(purse, day, kind)]
    return all([len([k for k in limits if has_slot(book[1][k], purse, day)]) >= level for purse in payers])


def lets_raise(book, thing):
    """The number of units of a raise paper; InvalidPaper for any other value."""
    if not isinstance(thing, tuple) or len(thing) != 4:
        raise InvalidPaper("shape", -1)
    units, charging, levels, limits = thing
    if not is_raise(book, units):
        raise InvalidPaper("units", -1)
    if not is_good(raised(book, units), charging):
        raise InvalidPaper("charging", -1)
    opened = open_rows(book)
    if not is_numbers(levels) or len(levels) != len(opened):
        raise InvalidPaper("levels", -1)
    if not are_limits(book, limits):
        raise InvalidPaper("limits", -1)
    for t, level in zip(opened, levels):
        if not has_level(book, book[2][t], level, limits):
            raise InvalidPaper("row", t)
    worth = sum([amount_of(book, t) * level for t, level in zip(opened, levels)])
    if worth - sum([left_of(book, k) for k in limits]) < sum(units):
        raise InvalidPaper("few", -1)
    return sum(units)
