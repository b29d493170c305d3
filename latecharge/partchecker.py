"""The checker of greatest papers."""

from latecharge.barchecker import are_integers, check_limit_apart, check_limit_known, check_slots, check_some
from latecharge.bookparts import amount_of, check_sponsors, left_of, open_rows, paid_by, sponsor_of
from latecharge.chargings import lets_charging, paid_from
from latecharge.errors import InvalidPaper, NotUsable


def check_limits_of(book, sponsors, limits):
    """Raises InvalidPaper if integers are no set of indexes of limits of sponsors, none of them within another one."""
    for n, k in enumerate(limits):
        check_limit_known(book, limits, n)
        if sponsor_of(book[0], book[1][k][0][0]) not in sponsors:
            raise InvalidPaper("other", n)
        check_limit_apart(book, limits, n)


def lets_greatest(book, sponsors, thing):
    """What sponsors pay in the charging of a greatest paper; InvalidPaper for any other value."""
    if not isinstance(sponsors, tuple):
        raise NotUsable("sponsors", -1)
    check_sponsors(book, sponsors)
    if not isinstance(thing, tuple) or len(thing) != 3:
        raise InvalidPaper("shape", -1)
    charging, some, limits = thing
    if not isinstance(charging, tuple) or not are_integers(some) or not are_integers(limits):
        raise InvalidPaper("shape", -1)
    lets_charging(book, charging)
    check_some(book, some)
    check_limits_of(book, sponsors, limits)
    check_slots(book, some, limits, sponsors)
    others = sum([amount_of(book, t) for t in open_rows(book) if t not in some])
    purses = [purse[0] for purse in book[0] if purse[1] in sponsors]
    most = others + sum([left_of(book, k) for k in limits]) + sum([paid_by(book, purse) for purse in purses])
    if sum([paid_from(book, charging, purse) for purse in purses]) != most:
        raise InvalidPaper("sum", -1)
    return most
