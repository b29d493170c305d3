"""Books as objects."""

from latecharge.areas import Area
from latecharge.bookchanges import with_amount, with_cap, with_limit, with_paid, with_purse, with_row, without_row
from latecharge.bookchecker import lets_book
from latecharge.bookparts import area_of, limits_over, open_rows, payers
from latecharge.bookreadings import book_read
from latecharge.booktexts import book_lines
from latecharge.errors import NotUsable
from latecharge.kinds import is_index, is_row


class Book:
    """A book; it never changes."""

    def __init__(self, purses, limits=(), rows=()):
        lets_book((purses, limits, rows))
        self._purses = purses
        self._limits = limits
        self._rows = rows

    @classmethod
    def parsed(cls, text):
        """The Book that a string writes."""
        purses, limits, rows = book_read(text)
        return cls(purses, limits, rows)

    @property
    def form(self):
        """The tuple of purses, limits and rows."""
        return (self._purses, self._limits, self._rows)

    @property
    def purse_rows(self):
        """The purses."""
        return self._purses

    @property
    def limit_rows(self):
        """The limits."""
        return self._limits

    @property
    def row_rows(self):
        """The rows."""
        return self._rows

    def __getitem__(self, at):
        if not is_index(at, len(self._rows)):
            raise NotUsable("row", -1)
        return self._rows[at]

    def __contains__(self, thing):
        return is_row(thing) and thing in self._rows

    def __len__(self):
        return len(self._rows)

    def __iter__(self):
        return iter(self._rows)

    def __eq__(self, other):
        return isinstance(other, Book) and self.form == other.form

    def __str__(self):
        return "\n".join(book_lines(self.form))

    def __call__(self, purse, day):
        return limits_over(self.form, purse, day)

    def __add__(self, other):
        return book_with(with_row(self.form, other))

    def __sub__(self, other):
        return book_with(without_row(self.form, other))

    def area(self, k):
        """The Area of limit k."""
        return Area(area_of(self.form, k))

    def payable(self):
        """Generates the pairs of an open row and the purses that may pay for it."""
        form = self.form
        for t in open_rows(form):
            yield (t, payers(form, t))

    def resized(self, t, amount):
        """The Book in which the open row t has this amount."""
        return book_with(with_amount(self.form, t, amount))

    def settled(self, t, shares):
        """The Book in which the open row t is paid with these shares."""
        return book_with(with_paid(self.form, t, shares))

    def joined(self, purse):
        """The Book with a purse more, in its place."""
        return book_with(with_purse(self.form, purse))

    def limited(self, limit):
        """The Book with a limit behind the others."""
        return book_with(with_limit(self.form, limit))

    def capped(self, k, cap):
        """The Book in which limit k has this cap."""
        return book_with(with_cap(self.form, k, cap))


def book_with(form):
    """The Book of a tuple that is a book."""
    purses, limits, rows = form
    return Book(purses, limits, rows)
