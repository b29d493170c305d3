"""Steps from one possible tuple of parts to another one."""

from latecharge.bookparts import sponsors_of
from latecharge.partsets import check_ends, greatest_sums, most_shifted, shifted


def great_shift(greatest, parts, other):
    """A triple (units, one, more): so many steps of the same kind that lead from parts towards other ones."""
    less = [n for n, part in enumerate(parts) if part > other[n]]
    more = [n for n, part in enumerate(parts) if part < other[n]]
    return max([
        (min(most_shifted(greatest, parts, m, n), parts[m] - other[m], other[n] - parts[n]), m, n)
        for m in less
        for n in more
    ])


def steps_between(book, parts, other):
    """As few steps as possible from parts to other ones, all possible."""
    check_ends(book, parts, other)
    names = sponsors_of(book)
    greatest = greatest_sums(book)
    steps = []
    now = parts
    # There is always a step towards the other ones, so each round leads nearer to them.
    while now != other:
        units, one, more = great_shift(greatest, now, other)
        steps.extend([(names[one], names[more])] * units)
        now = shifted(now, one, more, units)
    return tuple(steps)
