"""What single purses can have to pay."""

from latecharge.bars import check_fits
from latecharge.bookflows import SINK, SOURCE, BookFlow
from latecharge.bookparts import can_pay, check_day, check_purse, names_of, open_rows, paid_by, payments_of


def place_of(book, purse):
    """The place of the purse with this name."""
    return names_of(book[0]).index(purse)


def least_paid(book, wanted):
    """The least that purses can pay in all for open rows, by those pairs of a row and a purse that are wanted."""
    flow = BookFlow(book)
    edges = [edge for i, j, edge in flow.pay_edges if (i, j) in wanted]
    for edge in edges:
        flow.network.set_cost(edge, 1)
    flow.open_gates()
    return sum([flow.network.flow_on(edge) for edge in edges])


def ends_of(book, purse, rows, paid):
    """The least and the greatest number that a purse pays for some of the open rows, beside what it has paid."""
    opened = open_rows(book)
    place = place_of(book, purse)
    everywhere = [(i, j) for i in range(len(opened)) for j in range(len(book[0]))]
    wanted = [(i, place) for i in rows]
    others = [pair for pair in everywhere if pair not in wanted]
    total = sum([book[2][t][3] for t in opened])
    return (paid + least_paid(book, wanted), paid + total - least_paid(book, others))


def purse_ends(book, purse):
    """The least and the greatest number that a purse pays on all days together."""
    check_purse(book, purse)
    check_fits(book)
    return ends_of(book, purse, list(range(len(open_rows(book)))), paid_by(book, purse))


def slot_ends(book, purse, day):
    """The least and the greatest number that a purse pays on a day."""
    check_purse(book, purse)
    check_day(day)
    check_fits(book)
    rows = [i for i, t in enumerate(open_rows(book)) if book[2][t][1] == day]
    place = place_of(book, purse)
    paid = sum([shares[place] for when, shares in payments_of(book[2]) if when == day])
    return ends_of(book, purse, rows, paid)


def hold_slot(flow, book, slot, units):
    """Holds a slot, a pair of the place of a purse and a day: just so many units have to go through it.

    They leave the network at one edge and come back into it, behind the slot, at another one: both are returned.
    """
    place, day = slot
    node = flow.network.new_node()
    for i, j, edge in flow.pay_edges:
        if j == place and book[2][flow.opened[i]][1] == day:
            flow.network.set_room(edge, 0)
            flow.network.new_edge(flow.row_node(i), node, flow.unlimited)
    leaving = flow.network.new_edge(node, SINK, units)
    return (leaving, flow.network.new_edge(SOURCE, flow.node_over(book, place, day), units))


def can_pay_on_days(book, place, days, units):
    """Whether in some good charging the purse at this place pays just these units on these days for open rows."""
    flow = BookFlow(book)
    held = [hold_slot(flow, book, (place, day), many) for day, many in zip(days, units)]
    # While the gates are closed units can only leave at held slots; what has left there does not come back later.
    flow.network.fill(SOURCE, SINK)
    flow.open_gates()
    through = [[flow.network.flow_on(edge) for edge in edges] for edges in held]
    return flow.unpaid() == 0 and through == [[many, many] for many in units]


def can_pay_in_all(book, place, mosts, number):
    """Whether a purse can pay just so much for open rows; mosts has the days, and how much there is to pay on each."""
    ways = [()]
    for _, most in mosts:
        ways = [first + (units,) for first in ways for units in range(min(most, number - sum(first)) + 1)]
    for way in ways:
        if sum(way) == number and can_pay_on_days(book, place, [day for day, _ in mosts], way):
            return True
    return False


def purse_numbers(book, purse):
    """The set of all numbers that a purse pays on all days together."""
    least, greatest = purse_ends(book, purse)
    place = place_of(book, purse)
    rows = [book[2][t] for t in open_rows(book)]
    payable = [(day, amount) for _, day, kind, amount in rows if can_pay(book[0][place], day, kind)]
    days = sorted({day for day, _ in payable})
    mosts = [(day, sum([amount for when, amount in payable if when == day])) for day in days]
    paid = paid_by(book, purse)
    return tuple([
        number for number in range(least, greatest + 1) if can_pay_in_all(book, place, mosts, number - paid)
    ])
