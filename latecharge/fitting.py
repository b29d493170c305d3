"""Good chargings: one of them, whether there is one, and all of them."""

from latecharge.bookflows import full_flow
from latecharge.bookparts import can_pay, left_of, limits_over, open_rows


def a_charging(book):
    """A good charging; None if there is none."""
    flow = full_flow(book)
    if flow.unpaid() > 0:
        return None
    return flow.charging()


def fits(book):
    """Whether a book has a good charging."""
    return full_flow(book).unpaid() == 0


def still_open(book):
    """The book of what is left: only the open rows, and limits with what they have left as their caps."""
    purses, limits, rows = book
    left = tuple([limit[:3] + (left_of(book, k),) for k, limit in enumerate(limits)])
    return (purses, left, tuple([rows[t] for t in open_rows(book)]))


def lessened(caps, over, units):
    """Caps, of which those of these limits are so much less."""
    return tuple([cap - units if k in over else cap for k, cap in enumerate(caps)])


def longer_ways(way, over):
    """A way to pay for a row with what a further purse can pay under these limits; None if it may not pay."""
    shares, rest, caps = way
    most = 0 if over is None else min([rest] + [caps[k] for k in over])
    return [(shares + (units,), rest - units, lessened(caps, over or (), units)) for units in range(most + 1)]


def ways_to_pay(book, row):
    """All pairs, ascending, of shares for a row of a book without paid rows, and of the caps behind it."""
    purses, limits, _ = book
    _, day, kind, amount = row
    ways = [((), amount, tuple([limit[3] for limit in limits]))]
    for purse in purses:
        over = limits_over(book, purse[0], day) if can_pay(purse, day, kind) else None
        ways = [longer for way in ways for longer in longer_ways(way, over)]
    return [(shares, caps) for shares, rest, caps in ways if rest == 0]


def all_chargings(book):
    """All good chargings, ascending."""
    purses, limits, rows = still_open(book)
    if len(rows) == 0:
        yield ()
    # The ways to pay for the last row show by themselves whether there is one.
    elif len(rows) == 1 or fits(book):
        for shares, caps in ways_to_pay((purses, limits, rows), rows[0]):
            rest = (purses, tuple([limit[:3] + (cap,) for limit, cap in zip(limits, caps)]), rows[1:])
            for others in all_chargings(rest):
                yield (shares,) + others
