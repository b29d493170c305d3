"""Papers on whether a book fits."""

from latecharge.bars import a_bar
from latecharge.fitting import a_charging


def fit_paper(book):
    """A fit paper: a good charging or a bar."""
    charging = a_charging(book)
    if charging is None:
        return ("bar", a_bar(book))
    return ("charging", charging)
