"""Events and logs that lines write."""

from latecharge.bookreadings import limit_behind, purse_behind, row_behind
from latecharge.errors import InvalidText
from latecharge.wordreadings import Words

EVENT_WORDS = ("buy", "back", "pay", "purse", "limit", "cap", "close")


def charging_behind(words):
    """The tuple of shares that all further words write."""
    charging = []
    while words.has_more():
        charging.append(words.shares())
    return tuple(charging)


def change_behind(head, words):
    """The event back, pay or cap that its first word and the words behind it write."""
    at = words.number()
    if head == "back":
        worth = words.number(1)
    elif head == "pay":
        worth = words.shares()
    else:
        worth = words.number()
    words.end()
    return (head, at, worth)


def event_of(words):
    """The event that words write."""
    head = words.one_of(EVENT_WORDS)
    if head == "buy":
        return row_behind(head, words)
    if head == "purse":
        return (head, purse_behind(words))
    if head == "limit":
        return (head, limit_behind(words))
    if head == "close":
        return (head, charging_behind(words))
    return change_behind(head, words)


def lines_of_card(lines):
    """How many lines of purses and limits the first line of a log announces."""
    if len(lines) == 0:
        raise InvalidText(0, 0)
    words = Words(lines[0], 0, 0)
    words.one_of(("card",))
    many = words.number(1)
    words.end()
    return many


def card_parts(lines):
    """The purses and the limits that the lines behind the first one of a log write."""
    purses = []
    limits = []
    for n, text in enumerate(lines):
        words = Words(text, n + 1, 0)
        if len(limits) > 0:
            head = words.one_of(("limit",))
        elif len(purses) > 0:
            head = words.one_of(("purse", "limit"))
        else:
            head = words.one_of(("purse",))
        if head == "purse":
            purses.append(purse_behind(words))
        else:
            limits.append(limit_behind(words))
    return tuple(purses), tuple(limits)


def read_event(text):
    """The event that a string writes."""
    return event_of(Words(text, 0, 0))


def read_log(lines):
    """The tuple of the first element and the events that a list of strings writes."""
    first = lines_of_card(lines) + 1
    purses, limits = card_parts(lines[1:first])
    if len(lines) < first:
        raise InvalidText(len(lines), 0)
    events = [event_of(Words(text, first + n, 0)) for n, text in enumerate(lines[first:])]
    return (("card", purses, limits), *events)
