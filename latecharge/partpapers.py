"""Papers on the greatest part of some sponsors."""

from latecharge.bars import check_fits
from latecharge.bookflows import BookFlow
from latecharge.bookparts import check_sponsors, sponsor_of, sponsors_of


def greatest_paper(book, *sponsors):
    """A greatest paper: a charging in which these sponsors pay most, and the rows and limits that show it."""
    check_sponsors(book, sponsors)
    check_fits(book)
    flow = BookFlow(book)
    for n, sponsor in enumerate(sponsors_of(book)):
        if sponsor in sponsors:
            flow.open_gate(n)
    # What others pay later takes nothing from these sponsors, so the cut has to be taken now.
    some, full = flow.cut()
    limits = [k for k in full if sponsor_of(book[0], book[1][k][0][0]) in sponsors]
    flow.open_gates()
    return (flow.charging(), tuple(some), tuple(limits))
