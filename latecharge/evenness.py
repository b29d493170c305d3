"""The most even tuples of parts."""

from latecharge.bars import check_fits
from latecharge.bookparts import sponsors_of
from latecharge.ordering import parts_in_turn
from latecharge.partsets import greatest_sums, most_shifted, shifted


def evener(greatest, parts):
    """More even possible parts, by a shift from a sponsor to one who pays less; None if there is no such shift."""
    shifts = [
        (min(most_shifted(greatest, parts, m, n), (one - other) // 2), m, n)
        for m, one in enumerate(parts)
        for n, other in enumerate(parts)
        if one > other + 1
    ]
    units, m, n = max(shifts, default=(0, 0, 0))
    return None if units == 0 else shifted(parts, m, n, units)


def as_even(greatest, parts):
    """The possible tuples in which two sponsors, one of whom pays a unit more, have changed their parts."""
    return [
        shifted(parts, m, n, 1)
        for m, one in enumerate(parts)
        for n, other in enumerate(parts)
        if one == other + 1 and most_shifted(greatest, parts, m, n) > 0
    ]


def most_even(book):
    """The set of all most even tuples of parts."""
    check_fits(book)
    greatest = greatest_sums(book)
    now = parts_in_turn(book, list(range(len(sponsors_of(book)))))
    behind = evener(greatest, now)
    while behind is not None:
        now = behind
        behind = evener(greatest, now)
    # Where no single shift makes parts more even nothing does, and steps lead from each such tuple to all others.
    found = [now]
    at = 0
    while at < len(found):
        found = found + [parts for parts in as_even(greatest, found[at]) if parts not in found]
        at += 1
    return tuple(sorted(found))
