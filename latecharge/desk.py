"""A desk, to which rows of text are said."""

from latecharge.booktexts import number_text, shares_text
from latecharge.cards import Card
from latecharge.errors import InvalidRow, InvalidText
from latecharge.eventreadings import EVENT_WORDS, event_of, read_log
from latecharge.eventtexts import event_line
from latecharge.wordreadings import Words

NOTHING = "-"


def start_of(row):
    """The purses and limits of a row that is just the lines of a log's first element; None for any other row."""
    try:
        log = read_log(row.split("\n"))
    except InvalidText:
        return None
    return log[0][1:] if len(log) == 1 else None


def all_wishes(words):
    """The wishes that all further words write."""
    wishes = []
    while words.has_more():
        wishes.append((words.number(), words.name()))
    return tuple(wishes)


def all_names(words):
    """The names that all further words write, at least one."""
    names = [words.name()]
    while words.has_more():
        names.append(words.name())
    return tuple(names)


def spaced(texts):
    """Several things with single spaces between, or that there is nothing."""
    return " ".join(texts) if len(texts) > 0 else NOTHING


def numbers_text(numbers):
    """Several numbers."""
    return spaced([number_text(number) for number in numbers])


def amount_text(amount):
    """A number or None."""
    return NOTHING if amount is None else number_text(amount)


def say_event(card, event):
    """An event happens; its answer."""
    return number_text(card.go(event))


def say_bars(card, event):
    """Why an event is not possible."""
    reason = card.barred(event)
    return NOTHING if reason is None else reason


def say_fits(card, wish):
    """The room of one wish."""
    day, kind = wish
    return amount_text(card.fits_now(day, kind))


def say_room(card, wishes):
    """The room of wishes."""
    return amount_text(card.room_now(*wishes))


def say_order(card, names):
    """The parts by an order of sponsors."""
    return numbers_text(card.by_order(names))


def say_undo(card, _):
    """The last event is taken back; its line."""
    return event_line(card.undo())


def say_count(card, _):
    """How many events there are."""
    return number_text(len(card))


def say_log(card, _):
    """The lines of the events."""
    return str(card)


def say_open(card, _):
    """The indexes of the open rows."""
    return numbers_text(card.open_now)


def say_left(card, _):
    """What each limit has left."""
    return numbers_text(card.left_now)


def say_parts(card, _):
    """The least and the greatest part of each sponsor."""
    return spaced([
        f"{name}:{number_text(least)}..{number_text(greatest)}" for name, least, greatest in card.parts_now()
    ])


def say_even(card, _):
    """The most even parts."""
    return spaced([shares_text(parts) for parts in card.even()])


def say_table(card, _):
    """The lines of the table."""
    lines = card.table()
    return " / ".join(lines) if len(lines) > 0 else NOTHING


ANSWERS = {
    "bars": say_bars,
    "fits": say_fits,
    "room": say_room,
    "order": say_order,
    "undo": say_undo,
    "count": say_count,
    "log": say_log,
    "open": say_open,
    "left": say_left,
    "parts": say_parts,
    "even": say_even,
    "table": say_table,
}


def values_behind(head, words):
    """The values that the words behind the first one write."""
    if head == "fits":
        return (words.number(), words.name())
    if head == "room":
        return all_wishes(words)
    if head == "order":
        return all_names(words)
    return ()


def request_in(row):
    """The pair of the first word of a row and of the values behind it, an event for bars and for events; or None."""
    words = Words(row, 0, 0)
    try:
        if words.next_word() in EVENT_WORDS:
            return (words.next_word(), event_of(words))
        head = words.one_of(list(ANSWERS))
        if head == "bars":
            return (head, event_of(words))
        values = values_behind(head, words)
        words.end()
    except InvalidText:
        return None
    return (head, values)


class Desk:
    """A desk with a card, at first none."""

    def __init__(self):
        self._card = None
        self._started = 0
        self._finished = 0

    def say(self, row):
        """The answer to a row, any string."""
        self._started += 1
        try:
            return self._answer(row)
        finally:
            self._finished = self._started

    def _answer(self, row):
        """The answer to a row; InvalidRow if there is none."""
        start = start_of(row)
        if start is not None:
            purses, limits = start
            self._card = Card(purses, limits)
            return "ok"
        request = None if self._card is None else request_in(row)
        if request is None:
            raise InvalidRow(row)
        head, values = request
        answer = ANSWERS.get(head, say_event)
        return answer(self._card, values)

    def counts(self):
        """The numbers of started and of finished calls of say."""
        return (self._started, self._finished)
