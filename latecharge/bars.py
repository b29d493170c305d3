"""Bars, which show that a book does not fit."""

from latecharge.bookflows import full_flow
from latecharge.errors import NoCharging


def a_bar(book):
    """A bar with the greatest lack; None if there is no bar."""
    flow = full_flow(book)
    if flow.unpaid() == 0:
        return None
    some, limits = flow.cut()
    return (tuple(some), tuple(limits))


def greatest_lack(book):
    """The greatest lack of a bar; 0 if there is none."""
    return full_flow(book).unpaid()


def check_fits(book):
    """Raises NoCharging if a book does not fit."""
    lack = greatest_lack(book)
    if lack > 0:
        raise NoCharging(lack)
