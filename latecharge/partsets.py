"""Which tuples of parts are possible, told by the greatest number that each set of sponsors pays together.

Sponsors are told by their places.
"""

from latecharge.bars import check_fits
from latecharge.bookparts import sponsors_of
from latecharge.errors import NotUsable
from latecharge.parts import check_parts, flow_with, greatest_of, has_parts_form


def check_ends(book, parts, other):
    """Raises NotUsable or NoCharging if one of two values is no possible tuple of parts."""
    check_parts(book, parts)
    if not has_parts_form(book, other):
        raise NotUsable("other", -1)
    check_fits(book)
    if flow_with(book, parts) is None:
        raise NotUsable("parts", 0)
    if flow_with(book, other) is None:
        raise NotUsable("other", 0)


def greatest_sums(book):
    """The pairs of a set of sponsors and of the greatest number that these pay together, for a book that fits."""
    sets = [()]
    for n in range(len(sponsors_of(book))):
        sets = sets + [some + (n,) for some in sets]
    return [(some, greatest_of(book, some)) for some in sets]


def sum_of(parts, some):
    """What some sponsors pay together."""
    return sum([parts[n] for n in some])


def keeps_sums(greatest, parts):
    """Whether parts that are together all amounts are possible."""
    return all([sum_of(parts, some) <= most for some, most in greatest])


def most_shifted(greatest, parts, one, other):
    """How many units less one can pay, and other more, from possible parts to possible ones."""
    return min([most - sum_of(parts, some) for some, most in greatest if other in some and one not in some])


def shifted(parts, one, other, units):
    """Parts in which one pays so many units less, other so many more."""
    changes = {one: -units, other: units}
    return tuple([part + changes.get(n, 0) for n, part in enumerate(parts)])
