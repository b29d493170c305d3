"""The parts of the sponsors: the greatest and the least ones, and which are possible together."""

from latecharge.bars import check_fits
from latecharge.bookflows import flow_in_turn
from latecharge.bookparts import amount_of, check_sponsors, paid_by, sponsors_of
from latecharge.chargings import lets_charging, paid_from
from latecharge.errors import NotUsable
from latecharge.kinds import is_number, is_numbers


def has_parts_form(book, thing):
    """Whether a value is a tuple with a number for each sponsor."""
    return is_numbers(thing) and len(thing) == len(sponsors_of(book))


def check_parts(book, parts):
    """Raises NotUsable for a value that is no tuple with a number for each sponsor."""
    if not has_parts_form(book, parts):
        raise NotUsable("parts", -1)


def places_of(book, sponsors):
    """The places of some sponsors among those of the book."""
    return [n for n, sponsor in enumerate(sponsors_of(book)) if sponsor in sponsors]


def total_of(book):
    """The sum of the amounts of all rows, paid ones counted."""
    return sum([amount_of(book, t) for t in range(len(book[2]))])


def paid_parts(book):
    """What the purses of each sponsor pay in the paid rows."""
    return [
        sum([paid_by(book, purse[0]) for purse in book[0] if purse[1] == sponsor]) for sponsor in sponsors_of(book)
    ]


def parts_of(book, charging):
    """The parts of all sponsors in a good charging, in order; InvalidPaper for any other value."""
    lets_charging(book, charging)
    return tuple([
        sum([paid_from(book, charging, purse[0]) for purse in book[0] if purse[1] == sponsor])
        for sponsor in sponsors_of(book)
    ])


def greatest_of(book, places):
    """The greatest number that the sponsors at these places pay together in a book that fits."""
    flow = flow_in_turn(book, (), places)
    paid = paid_parts(book)
    return sum([paid[n] + flow.units_of(n) for n in places])


def greatest_part(book, *sponsors):
    """The greatest number that these sponsors pay together."""
    check_sponsors(book, sponsors)
    check_fits(book)
    return greatest_of(book, places_of(book, sponsors))


def least_part(book, *sponsors):
    """The least number that these sponsors pay together."""
    check_sponsors(book, sponsors)
    others = [sponsor for sponsor in sponsors_of(book) if sponsor not in sponsors]
    return total_of(book) - greatest_part(book, *others)


def flow_with(book, parts):
    """A flow that pays all amounts with these parts; None if they are not possible."""
    units = [part - paid for part, paid in zip(parts, paid_parts(book))]
    if sum(parts) != total_of(book) or not all([is_number(most) for most in units]):
        return None
    flow = flow_in_turn(book, units, ())
    if flow.unpaid() > 0:
        return None
    return flow


def are_possible(book, parts):
    """Whether a tuple of parts is possible."""
    check_parts(book, parts)
    check_fits(book)
    return flow_with(book, parts) is not None


def a_charging_with(book, parts):
    """A good charging with these parts; None if they are not possible."""
    check_parts(book, parts)
    check_fits(book)
    flow = flow_with(book, parts)
    if flow is None:
        return None
    return flow.charging()


def ends_behind(book, units):
    """The least and the greatest number of open units that the next sponsor pays if those before it pay these."""
    at = len(units)
    later = list(range(at + 1, len(sponsors_of(book))))
    if len(later) == 0:
        rest = total_of(book) - sum(paid_parts(book)) - sum(units)
        return (rest, rest)
    least = flow_in_turn(book, units, later + [at]).units_of(at)
    greatest = flow_in_turn(book, units, [at]).units_of(at)
    return (least, greatest)


def units_behind(book, units):
    """All tuples, ascending, of open units of the sponsors in which the first ones pay these."""
    if len(units) == len(sponsors_of(book)):
        yield units
    else:
        least, greatest = ends_behind(book, units)
        for most in range(least, greatest + 1):
            longer = units + (most,)
            yield from units_behind(book, longer)


def possible_parts(book):
    """All possible tuples of parts, ascending."""
    check_fits(book)
    paid = paid_parts(book)
    for units in units_behind(book, ()):
        yield tuple([before + most for before, most in zip(paid, units)])
