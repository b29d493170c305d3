"""Papers on the harm of charges that are fixed now."""

from latecharge.bars import a_bar
from latecharge.fixing import fixed, harm
from latecharge.rooms import bought_by, buying_flow, with_buys


def harm_paper(book, t, shares, *wishes):
    """A harm paper for the first set of wishes that is harmed if row t is fixed so; None if none is."""
    some = harm(book, t, shares, *wishes)
    if some is None:
        return None
    flow = buying_flow(book, some)
    amounts = bought_by(flow, some)
    buys = [wish + (amount,) for wish, amount in zip(some, amounts)]
    bar = a_bar(with_buys(fixed(book, t, shares), buys))
    return (some, amounts, flow.charging(), bar)
