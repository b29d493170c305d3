"""How much more can be bought."""

from latecharge.bars import check_fits
from latecharge.bookflows import SINK, SOURCE, BookFlow
from latecharge.bookparts import can_pay, limits_over
from latecharge.errors import NotUsable
from latecharge.fitting import fits
from latecharge.kinds import is_buy, is_wish


def with_buys(book, buys):
    """The book with further open rows."""
    purses, limits, rows = book
    return (purses, limits, rows + tuple([("buy",) + buy for buy in buys]))


def free_payers(book, wish):
    """The names of the purses that may pay for a wish with their slots in no area."""
    day, kind = wish
    names = [purse[0] for purse in book[0] if can_pay(purse, day, kind)]
    return [name for name in names if limits_over(book, name, day) == ()]


def is_free(book, wish):
    """Whether a slot in no area may pay for a wish."""
    return len(free_payers(book, wish)) > 0


def check_wishes(wishes):
    """Raises NotUsable for the first value that is no wish."""
    for n, wish in enumerate(wishes):
        if not is_wish(wish):
            raise NotUsable("wish", n)


def with_wishes(book, wishes):
    """The book with a further open row for each wish, by which nothing is bought."""
    return with_buys(book, [wish + (0,) for wish in wishes])


def buying_flow(book, wishes):
    """A flow that pays all rows, and beside that buys as much as it can by wishes, which are further rows in it."""
    flow = BookFlow(with_wishes(book, wishes))
    flow.open_gates()
    # What rows have got is not taken from them again, so the wishes come behind them.
    for edge in wish_edges(flow, wishes):
        flow.network.set_room(edge, flow.unlimited)
    flow.network.fill(SOURCE, SINK)
    return flow


def wish_edges(flow, wishes):
    """The edges of the further rows of wishes in a flow, in order."""
    return flow.row_edges[len(flow.row_edges) - len(wishes):]


def bought_by(flow, wishes):
    """How much is bought by each wish in a flow."""
    return tuple([flow.network.flow_on(edge) for edge in wish_edges(flow, wishes)])


def room_in(book, wishes):
    """The room of wishes in a book that fits."""
    if any([is_free(book, wish) for wish in wishes]):
        return None
    return sum(bought_by(buying_flow(book, wishes), wishes))


def room(book, *wishes):
    """The greatest amount that can be bought by these wishes together; None if there is no greatest one."""
    check_wishes(wishes)
    check_fits(book)
    return room_in(book, wishes)


def can_buy(book, *buys):
    """Whether the book fits with these buys as further open rows."""
    for n, buy in enumerate(buys):
        if not is_buy(buy):
            raise NotUsable("buy", n)
    return fits(with_buys(book, buys))
