"""Events of a card: which values are events by kind, why one can not happen to a book, and the book behind it."""

from latecharge.bookchanges import put, with_purse
from latecharge.bookchecker import lets_book
from latecharge.bookparts import names_of, open_rows
from latecharge.chargings import is_good
from latecharge.errors import InvalidPaper
from latecharge.fitting import fits
from latecharge.fixing import fixed_all, with_row_paid
from latecharge.kinds import is_limit, is_number, is_numbers, is_purse, is_row


def is_pair_by_kind(word, thing):
    """Whether a value goes with a word as an event of two elements."""
    if word == "purse":
        return is_purse(thing)
    if word == "limit":
        return is_limit(thing)
    return word == "close" and isinstance(thing, tuple) and all([is_numbers(shares) for shares in thing])


def is_triple_by_kind(word, at, thing):
    """Whether two values go with a word as an event of three elements."""
    if not is_number(at):
        return False
    if word == "pay":
        return is_numbers(thing)
    if word == "back":
        return is_number(thing) and thing > 0
    return word == "cap" and is_number(thing)


def is_event(thing):
    """Whether a value is an event by kind."""
    if not isinstance(thing, tuple):
        return False
    if len(thing) == 2:
        return is_pair_by_kind(thing[0], thing[1])
    if len(thing) == 3:
        return is_triple_by_kind(thing[0], thing[1], thing[2])
    return is_row(thing) and thing[0] == "buy"


def open_amount(book):
    """The sum of the amounts of all open rows."""
    return sum([book[2][t][3] for t in open_rows(book)])


def row_reason(book, event):
    """Why units of a row can not be given back, or a row not be paid."""
    word, t, worth = event
    rows = book[2]
    if t >= len(rows):
        return "row"
    if rows[t][0] == "paid":
        return "paid"
    if word == "back":
        return "amount" if worth > rows[t][3] else None
    return "shares" if sum(worth) != rows[t][3] else None


def purse_reason(book, event):
    """Why there can not be a purse more."""
    return "name" if event[1][0] in names_of(book[0]) else None


def cap_reason(book, event):
    """Why a limit can not have another cap."""
    _, k, cap = event
    if k >= len(book[1]):
        return "limit"
    return "same" if book[1][k][3] == cap else None


def close_reason(book, event):
    """Why the open rows can not be paid by a charging."""
    if len(open_rows(book)) == 0:
        return "open"
    return None if is_good(book, event[1]) else "charging"


REASONS = {"back": row_reason, "pay": row_reason, "purse": purse_reason, "cap": cap_reason, "close": close_reason}


def is_book(thing):
    """Whether lets_book accepts a value."""
    try:
        lets_book(thing)
    except InvalidPaper:
        return False
    return True


def reason_against(book, event):
    """Why an event by kind can not happen to a book; None if it can."""
    reason_of = REASONS.get(event[0])
    reason = None if reason_of is None else reason_of(book, event)
    if reason is not None:
        return reason
    # The other events always leave a book that fits.
    if event[0] in ("buy", "pay", "limit", "cap"):
        after = book_behind(book, event)
        if not is_book(after):
            return "book"
        if not fits(after):
            return "fit"
    return None


def behind_buy(book, event):
    """The book with a further open row."""
    purses, limits, rows = book
    return (purses, limits, rows + (event,))


def behind_back(book, event):
    """The book in which a row has so much less as its amount."""
    purses, limits, rows = book
    _, t, units = event
    word, day, kind, amount = rows[t]
    return (purses, limits, put(rows, t, (word, day, kind, amount - units)))


def behind_pay(book, event):
    """The book in which a row is paid."""
    return with_row_paid(book, event[1], event[2])


def behind_purse(book, event):
    """The book with a purse more."""
    return with_purse(book, event[1])


def behind_limit(book, event):
    """The book with a limit more."""
    purses, limits, rows = book
    return (purses, limits + (event[1],), rows)


def behind_cap(book, event):
    """The book in which a limit has another cap."""
    purses, limits, rows = book
    _, k, cap = event
    return (purses, put(limits, k, limits[k][:3] + (cap,)), rows)


def behind_close(book, event):
    """The book in which all open rows are paid."""
    return fixed_all(book, event[1])


CHANGES = {
    "buy": behind_buy,
    "back": behind_back,
    "pay": behind_pay,
    "purse": behind_purse,
    "limit": behind_limit,
    "cap": behind_cap,
    "close": behind_close,
}


def book_behind(book, event):
    """What the book is behind an event, perhaps no book, or one that does not fit."""
    change = CHANGES[event[0]]
    return change(book, event)


def answer_to(book, event):
    """The answer to an event, of which this is the book behind it."""
    if event[0] == "buy":
        return len(book[2]) - 1
    return open_amount(book)
