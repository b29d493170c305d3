"""The parts by an order of the sponsors, and the cheapest ones."""

from latecharge.bars import check_fits
from latecharge.bookflows import flow_in_turn
from latecharge.bookparts import sponsors_of
from latecharge.errors import NotUsable
from latecharge.kinds import is_integer, is_name
from latecharge.parts import paid_parts


def parts_in_turn(book, order):
    """The tuple of parts in which each sponsor of an order, told by its place, in turn pays as much as it can."""
    flow = flow_in_turn(book, (), order)
    return tuple([paid + flow.units_of(n) for n, paid in enumerate(paid_parts(book))])


def parts_by_order(book, order):
    """The tuple of parts in which each sponsor of an order in turn pays as much as it can."""
    known = sponsors_of(book)
    if not isinstance(order, tuple) or not all([is_name(sponsor) for sponsor in order]):
        raise NotUsable("order", -1)
    if sorted(order) != list(known):
        raise NotUsable("order", -1)
    check_fits(book)
    return parts_in_turn(book, [known.index(sponsor) for sponsor in order])


def cheapest(book, prices):
    """The least sum of parts times prices, and a possible tuple that has it."""
    known = sponsors_of(book)
    if not isinstance(prices, tuple) or len(prices) != len(known):
        raise NotUsable("prices", -1)
    if not all([is_integer(price) for price in prices]):
        raise NotUsable("prices", -1)
    check_fits(book)
    cheap_first = sorted([(price, n) for n, price in enumerate(prices)])
    parts = parts_in_turn(book, [pair[1] for pair in cheap_first])
    return (sum([part * price for part, price in zip(parts, prices)]), parts)
