"""Papers on how much more can be bought."""

from latecharge.bars import check_fits
from latecharge.fitting import a_charging
from latecharge.rooms import bought_by, buying_flow, check_wishes, free_payers


def room_paper(book, *wishes):
    """A room paper: amounts with the rows and limits that show they are most, or a purse that pays any amount."""
    check_wishes(wishes)
    check_fits(book)
    free = [name for wish in wishes for name in free_payers(book, wish)]
    if len(free) > 0:
        return ("free", a_charging(book), free[0])
    flow = buying_flow(book, wishes)
    reached, limits = flow.cut()
    # The rows of the wishes are behind those of the book.
    some = [t for t in reached if t < len(book[2])]
    return ("most", bought_by(flow, wishes), flow.charging(), tuple(some), tuple(limits))
