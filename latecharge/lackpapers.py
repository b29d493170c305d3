"""Papers on what is lacking."""

from latecharge.bars import a_bar
from latecharge.bookflows import full_flow


def lack_paper(book):
    """A lack paper: amounts that can be paid, a charging that pays them, and a bar whose lack is the rest."""
    charging = full_flow(book).charging()
    amounts = tuple([sum(shares) for shares in charging])
    return (amounts, charging, a_bar(book))
