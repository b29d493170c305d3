"""A live card."""

from latecharge.bars import a_bar
from latecharge.bookchecker import lets_book
from latecharge.bookparts import amount_of, left_of, names_of, open_rows, sponsors_of
from latecharge.booktexts import number_text, shares_text
from latecharge.cardevents import answer_to, book_behind, is_event, reason_against
from latecharge.errors import InvalidEvent, NothingToUndo, NotUsable
from latecharge.evenness import most_even
from latecharge.eventtexts import event_line
from latecharge.fitting import a_charging
from latecharge.fixing import harm
from latecharge.kinds import is_index
from latecharge.lacking import fits_up_to
from latecharge.ordering import parts_by_order
from latecharge.parts import greatest_part, least_part
from latecharge.rooms import room

# Which element of a book an event makes longer.
PLACES = {"purse": 0, "limit": 1, "buy": 2}


def table_line(book, t):
    """The line of row t in a table."""
    word, day, kind, worth = book[2][t]
    amount = number_text(amount_of(book, t)).rjust(3)
    state, shares = ("open", "-") if word == "buy" else (word, shares_text(worth))
    return " ".join([number_text(t).rjust(2), state, number_text(day).rjust(2), kind.ljust(8), amount, shares])


class Card:
    """A card with its book; events change it, and nothing is charged but by pay and close."""

    MOST = 40
    ROWS = 10
    PURSES = 6
    LIMITS = 8

    def __init__(self, purses, limits):
        book = (purses, limits, ())
        lets_book(book)
        if len(purses) > Card.PURSES or len(limits) > Card.LIMITS:
            raise NotUsable("many", -1)
        self._start = ("card", purses, limits)
        self._events = []
        # The book at the beginning, and that behind each event.
        self._books = [book]
        self._started = 0
        self._finished = 0

    @property
    def book(self):
        """The book now."""
        return self._books[-1]

    @property
    def open_now(self):
        """The set of the indexes of the open rows."""
        return open_rows(self._books[-1])

    @property
    def left_now(self):
        """The tuple of what each limit has left."""
        book = self._books[-1]
        return tuple([left_of(book, k) for k in range(len(book[1]))])

    def __getitem__(self, at):
        rows = self._books[-1][2]
        if not is_index(at, len(rows)):
            raise NotUsable("row", at)
        return rows[at]

    def __iter__(self):
        raise TypeError("a card is not iterated over")

    def __contains__(self, thing):
        return thing in names_of(self._books[-1][0])

    def __len__(self):
        return len(self._events)

    def __eq__(self, other):
        return isinstance(other, Card) and self._start == other._start and self._events == other._events

    def __str__(self):
        if len(self._events) == 0:
            return "-"
        return " / ".join([event_line(event) for event in self._events])

    def __call__(self, event):
        return self.go(event)

    def _reason(self, book, many, event):
        """Why any value is not possible as an event behind so many others, with this book; None if it is."""
        if not is_event(event):
            return "shape"
        if many >= Card.MOST:
            return "full"
        mosts = (Card.PURSES, Card.LIMITS, Card.ROWS)
        place = PLACES.get(event[0])
        if place is not None and len(book[place]) >= mosts[place]:
            return "many"
        return reason_against(book, event)

    def _behind(self, book, many, event):
        """The book behind any value as an event behind so many others, with this book; InvalidEvent if not possible."""
        reason = self._reason(book, many, event)
        if reason is not None:
            raise InvalidEvent(event, reason)
        return book_behind(book, event)

    def follow(self, events):
        """Events happen one after the other, without being counted; raises the first error."""
        for event in events:
            book = self._behind(self._books[-1], len(self._events), event)
            self._events.append(event)
            self._books.append(book)

    def go(self, event):
        """An event, any value, happens; the answer to it."""
        self._started += 1
        try:
            self.follow((event,))
            return answer_to(self._books[-1], event)
        finally:
            self._finished = self._started

    def buy(self, day, kind, amount):
        """A purchase is a further open row; its index."""
        return self.go(("buy", day, kind, amount))

    def back(self, t, amount):
        """Row t has so much less as its amount; the sum of all open amounts."""
        return self.go(("back", t, amount))

    def pay(self, t, shares):
        """Row t is paid with these shares; the sum of all open amounts."""
        return self.go(("pay", t, shares))

    def add_purse(self, purse):
        """There is a purse more; the sum of all open amounts."""
        return self.go(("purse", purse))

    def add_limit(self, limit):
        """There is a limit more; the sum of all open amounts."""
        return self.go(("limit", limit))

    def set_cap(self, k, cap):
        """Limit k has another cap; the sum of all open amounts."""
        return self.go(("cap", k, cap))

    def close(self, charging):
        """Each open row is paid with its shares in a charging; the sum of all open amounts."""
        return self.go(("close", charging))

    def tried(self, *events):
        """The book behind events that are done in order; nothing changes."""
        book = self._books[-1]
        for n, event in enumerate(events):
            book = self._behind(book, len(self._events) + n, event)
        return book

    def undo(self):
        """Takes back the last event; this event."""
        self._started += 1
        try:
            if len(self._events) == 0:
                raise NothingToUndo(0)
            self._books.pop()
            return self._events.pop()
        finally:
            self._finished = self._started

    def do_all(self, *events, keep=False):
        """Does events in order; how many. If one is not possible, those before it stay done only if keep is True."""
        self._started += 1
        try:
            if keep is not True:
                self.tried(*events)
            self.follow(events)
            return len(events)
        finally:
            self._finished = self._started

    def counts(self):
        """The numbers of started and of finished operations."""
        return (self._started, self._finished)

    def table(self):
        """The list of a line for each row."""
        book = self._books[-1]
        return [table_line(book, t) for t in range(len(book[2]))]

    def log(self):
        """The first element of the log and the events."""
        return (self._start, *self._events)

    def barred(self, event):
        """The reason for which any value is not possible as an event; None if it is."""
        return self._reason(self._books[-1], len(self._events), event)

    def bar_for(self, event):
        """A bar of the book that would be, for an event that is refused because it would not fit; None if possible."""
        reason = self.barred(event)
        if reason is None:
            return None
        if reason != "fit":
            raise InvalidEvent(event, reason)
        return a_bar(book_behind(self._books[-1], event))

    def fits_now(self, day, kind):
        """The room of one wish."""
        return fits_up_to(self._books[-1], day, kind)

    def room_now(self, *wishes):
        """The room of wishes."""
        return room(self._books[-1], *wishes)

    def parts_now(self):
        """The triples of each sponsor and its least and greatest part."""
        book = self._books[-1]
        return tuple([(name, least_part(book, name), greatest_part(book, name)) for name in sponsors_of(book)])

    def by_order(self, order):
        """The parts in which each sponsor of an order in turn pays as much as it can."""
        return parts_by_order(self._books[-1], order)

    def even(self):
        """The set of the most even parts."""
        return most_even(self._books[-1])

    def any_charging(self):
        """A good charging."""
        return a_charging(self._books[-1])

    def harm_now(self, t, shares, *wishes):
        """The first set of wishes that is harmed if row t is fixed so."""
        return harm(self._books[-1], t, shares, *wishes)
