"""Raised caps, with which a book fits."""

from latecharge.bookflows import BookFlow
from latecharge.errors import NotUsable
from latecharge.kinds import is_numbers


def is_raise(book, units):
    """Whether a value is a tuple with a number for each limit."""
    return is_numbers(units) and len(units) == len(book[1])


def raised(book, units):
    """The book in which the cap of each limit is so much greater."""
    if not is_raise(book, units):
        raise NotUsable("units", -1)
    purses, limits, rows = book
    return (purses, tuple([limit[:3] + (limit[3] + more,) for limit, more in zip(limits, units)]), rows)


def raising_flow(book, first):
    """A flow that needs as few further units of caps as can be, and for each limit the edge on which these go.

    The first limits are raised by these units and get no further ones: their edge is None.
    """
    many = len(book[1])
    flow = BookFlow(raised(book, first + (0,) * (many - len(first))))
    extra = [None] * len(first)
    for k in range(len(first), many):
        edge = flow.network.new_edge(flow.limit_node(k), flow.network.heads[flow.limit_edges[k]], flow.unlimited)
        flow.network.set_cost(edge, 1)
        extra.append(edge)
    flow.open_gates()
    return (flow, extra)


def fewest_behind(book, first):
    """The fewest units of a raise of the limits behind these first ones; None if no raise is enough."""
    flow, extra = raising_flow(book, first)
    if flow.unpaid() > 0:
        return None
    return sum([flow.network.flow_on(edge) for edge in extra if edge is not None])


def fewest_raise(book):
    """The fewest units of a raise that is enough; None if none is."""
    return fewest_behind(book, ())


def raises_behind(book, first, rest):
    """All raises, ascending, that begin so, have so many units more, and are enough."""
    if len(first) == len(book[1]):
        yield first
    else:
        for units in range(rest + 1):
            longer = first + (units,)
            less = rest - units
            if fewest_behind(book, longer) == less:
                yield from raises_behind(book, longer, less)


def least_raises(book):
    """All raises, ascending, that are enough with the fewest units."""
    fewest = fewest_raise(book)
    if fewest is not None:
        yield from raises_behind(book, (), fewest)
