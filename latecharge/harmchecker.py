"""The checker of harm papers."""

from latecharge.barchecker import is_bar
from latecharge.chargings import is_good
from latecharge.errors import InvalidPaper
from latecharge.fixing import fixed
from latecharge.kinds import is_numbers, is_wish
from latecharge.rooms import with_buys


def check_wish_set(some):
    """Raises InvalidPaper if a tuple is no set of wishes."""
    for k, wish in enumerate(some):
        if not is_wish(wish) or (k > 0 and wish <= some[k - 1]):
            raise InvalidPaper("wish", k)


def lets_harm(book, t, shares, thing):
    """The set of wishes of a harm paper; InvalidPaper for any other value."""
    after = fixed(book, t, shares)
    if not isinstance(thing, tuple) or len(thing) != 4:
        raise InvalidPaper("shape", -1)
    some, amounts, charging, bar = thing
    if not isinstance(some, tuple) or not isinstance(amounts, tuple):
        raise InvalidPaper("shape", -1)
    check_wish_set(some)
    if not is_numbers(amounts) or len(amounts) != len(some):
        raise InvalidPaper("amounts", -1)
    buys = [wish + (amount,) for wish, amount in zip(some, amounts)]
    if not is_good(with_buys(book, buys), charging):
        raise InvalidPaper("charging", -1)
    if not is_bar(with_buys(after, buys), bar):
        raise InvalidPaper("bar", -1)
    return some
