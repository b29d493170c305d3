"""How much more can be bought."""

from latecharge.bars import check_fits
from latecharge.bookflows import full_flow
from latecharge.bookparts import can_pay, left_of, limits_over
from latecharge.errors import NotUsable
from latecharge.fitting import fits
from latecharge.kinds import is_buy, is_wish


def with_buys(book, buys):
    """The book with further open rows."""
    purses, limits, rows = book
    return (purses, limits, rows + tuple([("buy",) + buy for buy in buys]))


def is_free(book, wish):
    """Whether a slot in no area may pay for a wish."""
    day, kind = wish
    return any([can_pay(purse, day, kind) and limits_over(book, purse[0], day) == () for purse in book[0]])


def check_wishes(wishes):
    """Raises NotUsable for the first value that is no wish."""
    for n, wish in enumerate(wishes):
        if not is_wish(wish):
            raise NotUsable("wish", n)


def room(book, *wishes):
    """The greatest amount that can be bought by these wishes together; None if there is no greatest one."""
    check_wishes(wishes)
    check_fits(book)
    if any([is_free(book, wish) for wish in wishes]):
        return None
    # No wish has more room than all limits together have left.
    most = sum([left_of(book, k) for k in range(len(book[1]))])
    flow = full_flow(with_buys(book, [wish + (most,) for wish in wishes]))
    return most * len(wishes) - flow.unpaid()


def can_buy(book, *buys):
    """Whether the book fits with these buys as further open rows."""
    for n, buy in enumerate(buys):
        if not is_buy(buy):
            raise NotUsable("buy", n)
    return fits(with_buys(book, buys))
