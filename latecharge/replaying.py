"""Cards that are made again from their logs."""

from latecharge.cardevents import is_event
from latecharge.cards import Card
from latecharge.errors import InvalidPaper, NotUsable


def can_begin(thing):
    """Whether a value is the first element of a log, of which a card can be made."""
    if not isinstance(thing, tuple) or len(thing) != 3 or thing[0] != "card":
        return False
    try:
        Card(thing[1], thing[2])
    except (InvalidPaper, NotUsable):
        return False
    return True


def is_log(thing):
    """Whether a value is a tuple of such an element and of events by kind, possible or not."""
    if not isinstance(thing, tuple) or len(thing) == 0:
        return False
    return can_begin(thing[0]) and all([is_event(event) for event in thing[1:]])


def replayed(log):
    """A new card behind the events of a log."""
    _, purses, limits = log[0]
    card = Card(purses, limits)
    card.follow(log[1:])
    return card
