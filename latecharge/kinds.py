"""Whether any value is a number, a name, or a part of a book, by its form alone."""

LONGEST_NAME = 8


def is_integer(thing):
    """Whether a value is an int that is not a bool."""
    return isinstance(thing, int) and not isinstance(thing, bool)


def is_number(thing):
    """Whether a value is an integer that is at least 0."""
    return is_integer(thing) and thing >= 0


def is_index(thing, many):
    """Whether a value is the index of one of so many things."""
    return is_number(thing) and thing < many


def is_name(thing):
    """Whether a value is a string of one to eight lowercase letters."""
    if not isinstance(thing, str):
        return False
    return 1 <= len(thing) <= LONGEST_NAME and all(["a" <= sign <= "z" for sign in thing])


def is_names(thing):
    """Whether a value is a nonempty set of names."""
    if not isinstance(thing, tuple) or not all([is_name(part) for part in thing]):
        return False
    return len(thing) > 0 and list(thing) == sorted(set(thing))


def is_numbers(thing):
    """Whether a value is a tuple of numbers, such as shares."""
    return isinstance(thing, tuple) and all([is_number(part) for part in thing])


def is_span(first, last):
    """Whether two values are a first and a last day."""
    return is_number(first) and is_number(last) and first <= last


def is_slot(thing):
    """Whether a value is a pair of a name and a number."""
    if not isinstance(thing, tuple) or len(thing) != 2:
        return False
    purse, day = thing
    return is_name(purse) and is_number(day)


def is_wish(thing):
    """Whether a value is a pair of a day and a kind."""
    return isinstance(thing, tuple) and len(thing) == 2 and is_number(thing[0]) and is_name(thing[1])


def is_buy(thing):
    """Whether a value is a wish with an amount behind it."""
    return isinstance(thing, tuple) and len(thing) == 3 and is_wish(thing[:2]) and is_number(thing[2])


def is_purse(thing):
    """Whether a value is a tuple (purse, sponsor, kinds, first, last) by form."""
    if not isinstance(thing, tuple) or len(thing) != 5:
        return False
    purse, sponsor, kinds, first, last = thing
    return is_name(purse) and is_name(sponsor) and is_names(kinds) and is_span(first, last)


def is_limit(thing):
    """Whether a value is a tuple (purses, first, last, cap) by form."""
    if not isinstance(thing, tuple) or len(thing) != 4:
        return False
    purses, first, last, cap = thing
    return is_names(purses) and is_span(first, last) and is_number(cap)


def is_row(thing):
    """Whether a value is an open purchase or one that was charged, by form."""
    if not isinstance(thing, tuple) or len(thing) != 4:
        return False
    word, day, kind, worth = thing
    if not is_number(day) or not is_name(kind):
        return False
    if word == "buy":
        return is_number(worth)
    return word == "paid" and is_numbers(worth)
