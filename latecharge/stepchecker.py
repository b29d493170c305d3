"""The checker of steps between tuples of parts."""

from latecharge.bookparts import sponsors_of
from latecharge.errors import InvalidPaper
from latecharge.partsets import check_ends, greatest_sums, keeps_sums, shifted


def is_step_by_form(thing):
    """Whether a value is a pair of strings."""
    return isinstance(thing, tuple) and len(thing) == 2 and all([isinstance(name, str) for name in thing])


def parts_behind(names, parts, step, k):
    """The parts behind step k, perhaps not possible; InvalidPaper if it has not two different sponsors."""
    one, other = step
    if one not in names or other not in names or one == other:
        raise InvalidPaper("sponsor", k)
    return shifted(parts, names.index(one), names.index(other), 1)


def lets_steps(book, parts, other, thing):
    """How many steps a value has that leads from parts to other ones; InvalidPaper for any other value."""
    check_ends(book, parts, other)
    if not isinstance(thing, tuple) or not all([is_step_by_form(step) for step in thing]):
        raise InvalidPaper("shape", -1)
    names = sponsors_of(book)
    greatest = greatest_sums(book)
    now = parts
    for k, step in enumerate(thing):
        now = parts_behind(names, now, step, k)
        if not keeps_sums(greatest, now):
            raise InvalidPaper("possible", k)
    if now != other:
        raise InvalidPaper("end", -1)
    if len(thing) > sum([max(0, before - behind) for before, behind in zip(parts, other)]):
        raise InvalidPaper("many", -1)
    return len(thing)
