"""Areas of limits, compared by first and last day: days can be too far apart to go through them."""


def has_slot(limit, purse, day):
    """Whether the slot (purse, day) is in the area of a limit."""
    purses, first, last, _ = limit
    return purse in purses and first <= day <= last


def is_inside(limit, other):
    """Whether the area of a limit is within that of another one, or the same."""
    purses, first, last, _ = limit
    return other[1] <= first and last <= other[2] and all([purse in other[0] for purse in purses])


def has_common(limit, other):
    """Whether the areas of two limits have a slot in common."""
    purses, first, last, _ = limit
    return first <= other[2] and other[1] <= last and any([purse in other[0] for purse in purses])


def is_same(limit, other):
    """Whether two limits have the same area."""
    return limit[:3] == other[:3]


def slots_in(limit):
    """How many slots the area of a limit has."""
    purses, first, last, _ = limit
    return len(purses) * (last - first + 1)


def paid_inside(limit, purses, payments):
    """What is paid in the area of a limit by payments, which are pairs of a day and the shares of these purses."""
    return sum([
        share
        for day, shares in payments
        for purse, share in zip(purses, shares)
        if has_slot(limit, purse[0], day)
    ])
