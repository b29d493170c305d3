"""Charges that are fixed now, and what they take from later purchases."""

from latecharge.bars import check_fits
from latecharge.bookchanges import check_open, put
from latecharge.bookchecker import has_right_shares
from latecharge.bookflows import SINK, SOURCE, BookFlow
from latecharge.bookparts import can_pay, open_rows, payments_of
from latecharge.chargings import lets_charging
from latecharge.errors import NotUsable
from latecharge.fitting import fits
from latecharge.kinds import is_numbers
from latecharge.limitareas import paid_inside
from latecharge.rooms import check_wishes, is_free, room_in, with_wishes


def paid_row(row, shares):
    """An open row as one that is paid with these shares."""
    _, day, kind, _ = row
    return ("paid", day, kind, shares)


def with_row_paid(book, t, shares):
    """What the book is with row t paid with these shares, perhaps no book."""
    purses, limits, rows = book
    return (purses, limits, put(rows, t, paid_row(rows[t], shares)))


def fixed(book, t, shares):
    """The book in which the open row t is paid with these shares."""
    check_open(book, t)
    purses, limits, rows = book
    if not is_numbers(shares) or sum(shares) != rows[t][3]:
        raise NotUsable("shares", -1)
    if not has_right_shares(purses, paid_row(rows[t], shares)):
        raise NotUsable("shares", -1)
    after = with_row_paid(book, t, shares)
    payments = payments_of(after[2])
    for k, limit in enumerate(limits):
        if paid_inside(limit, purses, payments) > limit[3]:
            raise NotUsable("over", k)
    return after


def fixed_all(book, charging):
    """The book in which all open rows are paid as a good charging says; InvalidPaper for any other value."""
    lets_charging(book, charging)
    after = book
    for t, shares in zip(open_rows(book), charging):
        after = with_row_paid(after, t, shares)
    return after


def sets_of(wishes):
    """All sets of some of these wishes, those of fewer wishes ahead, those of as many ascending."""
    sets = [()]
    for wish in sorted(set(wishes)):
        sets = sets + [some + (wish,) for some in sets]
    ranked = sorted([(len(some), some) for some in sets])
    return [pair[1] for pair in ranked]


def first_harmed(book, after, wishes):
    """The first set of wishes with less room in another book; both books fit, and have the same limits."""
    for some in sets_of(wishes):
        most = room_in(book, some)
        # By the same limits, a room that is None is None behind, too.
        if most is not None and room_in(after, some) < most:
            return some
    return None


def harm(book, t, shares, *wishes):
    """The first set of wishes harmed if row t is fixed so: () if the book does not fit then, None if no set is."""
    after = fixed(book, t, shares)
    check_wishes(wishes)
    check_fits(book)
    if not fits(after):
        return ()
    return first_harmed(book, after, wishes)


def harm_of_all(book, charging, *wishes):
    """The first set of wishes that is harmed if all open rows are fixed as a good charging says; None if none is."""
    after = fixed_all(book, charging)
    check_wishes(wishes)
    return first_harmed(book, after, wishes)


def flow_without(book, i, wishes):
    """A flow that pays all rows but the open row i, and buys the whole room of wishes, which are further rows in it.

    No purse may pay for row i in it yet.
    """
    flow = BookFlow(with_wishes(book, wishes))
    group = flow.network.new_node()
    flow.network.new_edge(SOURCE, group, room_in(book, wishes))
    for n in range(len(wishes)):
        flow.network.new_edge(group, flow.row_node(len(open_rows(book)) + n), flow.unlimited)
    for row, _, edge in flow.pay_edges:
        if row == i:
            flow.network.set_room(edge, 0)
    flow.open_gates()
    return flow


def most_by(flow, i, places):
    """How much of the open row i the purses at these places can pay together beside a flow that pays nothing for it."""
    before = flow.network.kept_rooms()
    for row, j, edge in flow.pay_edges:
        if row == i and j in places:
            flow.network.set_room(edge, flow.unlimited)
    flow.network.fill(SOURCE, SINK)
    units = flow.network.flow_on(flow.row_edges[i])
    flow.network.put_rooms(before)
    return units


def groups_of(places):
    """All sets of some of these places: the first half are those without the last place, in the order of the rest."""
    groups = [()]
    for place in places:
        groups = groups + [group + (place,) for group in groups]
    return groups


def harmless_mosts(book, i, wishes, places):
    """What each of the groups of these places can pay at most for the open row i without harm to a set of wishes."""
    groups = groups_of(places)
    # A room that is None can not be harmed.
    bounded = [wish for wish in wishes if not is_free(book, wish)]
    mosts = [book[2][open_rows(book)[i]][3]] * len(groups)
    for some in sets_of(bounded):
        flow = flow_without(book, i, some)
        mosts = [min(most, most_by(flow, i, group)) for most, group in zip(mosts, groups)]
    return mosts


def splits_within(mosts, many, first, sums, rest):
    """All tuples, ascending, of so many numbers in which no group of numbers is together more than its most.

    They begin with the first ones, and the others are together the rest; sums has the sum of each group of the first.
    """
    if len(first) == many:
        yield first
    else:
        longer_mosts = mosts[len(sums):2 * len(sums)]
        most = min([rest] + [limit - total for limit, total in zip(longer_mosts, sums)])
        # The last number is all that rests.
        least = rest if len(first) == many - 1 else 0
        for units in range(least, most + 1):
            longer = first + (units,)
            more_sums = sums + [total + units for total in sums]
            less = rest - units
            yield from splits_within(mosts, many, longer, more_sums, less)


def harmless_shares(book, t, *wishes):
    """All shares of the open row t, ascending, that harm no set of wishes, and with which the book fits."""
    check_open(book, t)
    check_wishes(wishes)
    check_fits(book)
    _, day, kind, amount = book[2][t]
    places = [j for j, purse in enumerate(book[0]) if can_pay(purse, day, kind)]
    mosts = harmless_mosts(book, open_rows(book).index(t), wishes, places)
    many = len(places)
    # Each set of wishes leaves shares that keep, for each group of purses, what the group can pay beside its room.
    for units in splits_within(mosts, many, (), [0], amount):
        by_place = {j: share for j, share in zip(places, units)}
        yield tuple([by_place.get(j, 0) for j in range(len(book[0]))])
