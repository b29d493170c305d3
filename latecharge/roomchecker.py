"""The checker of room papers."""

from latecharge.barchecker import are_integers, check_limits_apart, check_slots, check_some, first_outside
from latecharge.bookparts import amount_of, left_of, sponsors_of
from latecharge.chargings import lets_charging
from latecharge.errors import InvalidPaper, NotUsable
from latecharge.kinds import is_numbers
from latecharge.rooms import check_wishes, free_payers, with_buys


def is_most_by_form(thing):
    """Whether a tuple that is not empty is one of "most", numbers, a tuple and two tuples of integers."""
    if thing[0] != "most" or len(thing) != 5:
        return False
    _, amounts, charging, some, limits = thing
    return is_numbers(amounts) and isinstance(charging, tuple) and are_integers(some) and are_integers(limits)


def is_free_by_form(thing):
    """Whether a tuple that is not empty is one of "free", a tuple and a string."""
    return thing[0] == "free" and len(thing) == 3 and isinstance(thing[1], tuple) and isinstance(thing[2], str)


def check_wish_slots(book, wishes, limits):
    """Raises InvalidPaper if a slot that may pay for a wish is in none of the areas of these limits."""
    sponsors = sponsors_of(book)
    for n, wish in enumerate(wishes):
        day, kind = wish
        j = first_outside(book, day, kind, limits, sponsors)
        if j is not None:
            raise InvalidPaper("wish", (n, j))


def lets_most(book, wishes, thing):
    """The room that a room paper of the form "most" shows; InvalidPaper if it is none."""
    _, amounts, charging, some, limits = thing
    if len(amounts) != len(wishes):
        raise InvalidPaper("many", -1)
    buys = [wish + (amount,) for wish, amount in zip(wishes, amounts)]
    lets_charging(with_buys(book, buys), charging)
    check_some(book, some)
    check_limits_apart(book, limits)
    check_slots(book, some, limits, sponsors_of(book))
    check_wish_slots(book, wishes, limits)
    rest = sum([left_of(book, k) for k in limits]) - sum([amount_of(book, t) for t in some])
    if sum(amounts) != rest:
        raise InvalidPaper("sum", -1)
    return rest


def lets_room(book, wishes, thing):
    """The room that a room paper shows; InvalidPaper for any other value."""
    if not isinstance(wishes, tuple):
        raise NotUsable("wishes", -1)
    check_wishes(wishes)
    if not isinstance(thing, tuple) or len(thing) == 0:
        raise InvalidPaper("shape", -1)
    if is_most_by_form(thing):
        return lets_most(book, wishes, thing)
    if not is_free_by_form(thing):
        raise InvalidPaper("shape", -1)
    _, charging, name = thing
    lets_charging(book, charging)
    if not any([name in free_payers(book, wish) for wish in wishes]):
        raise InvalidPaper("purse", -1)
    return None
