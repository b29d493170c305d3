"""Small books by a seed, and what they allow, found by trying everything with the words of the document."""

import itertools
import random

from latecharge.bookchecker import lets_book
from latecharge.errors import InvalidPaper
from tests.samples import splits, subsets

KINDS = ('a', 'b', 'c')
SPONSORS = ('aunt', 'dad', 'firm')


def accepted(book):
    try:
        lets_book(book)
    except InvalidPaper:
        return False
    return True


def random_span(choice, last_day):
    return sorted([choice.randint(0, last_day), choice.randint(0, last_day)])


def random_purses(choice, many, last_day):
    return tuple(
        (name, choice.choice(SPONSORS), tuple(sorted(choice.sample(KINDS, choice.randint(1, 3)))),
         *random_span(choice, last_day))
        for name in ('cash', 'gift', 'home', 'meal', 'pay', 'trip')[:many]
    )


def random_limit(choice, purses, last_day, most):
    sponsor = choice.choice(purses)[1]
    own = [purse[0] for purse in purses if purse[1] == sponsor]
    some = tuple(sorted(choice.sample(own, choice.randint(1, len(own)))))
    return (some, *random_span(choice, last_day), choice.randint(0, most))


def random_row(choice, purses, last_day, most):
    day, kind, amount = choice.randint(0, last_day), choice.choice(KINDS), choice.randint(0, most)
    may = [j for j, purse in enumerate(purses) if kind in purse[2] and purse[3] <= day <= purse[4]]
    if choice.random() < 0.75:
        return ('buy', day, kind, amount)
    return ('paid', day, kind, tuple(choice.randint(0, 1) if j in may else 0 for j in range(len(purses))))


def random_book(seed, purses=4, limits=4, rows=4, last_day=2, most=3):
    """A book with at most so many purses, limits and rows; all kinds of limits within limits occur."""
    choice = random.Random(seed)
    behind = random_purses(choice, choice.randint(1, purses), last_day)
    book = (behind, (), ())
    for _ in range(2 * limits):
        more = (behind, book[1] + (random_limit(choice, behind, last_day, 2 * most),), ())
        if len(book[1]) < limits and accepted(more):
            book = more
    for _ in range(choice.randint(0, rows)):
        more = (behind, book[1], book[2] + (random_row(choice, behind, last_day, most),))
        if accepted(more):
            book = more
    return book


BOOKS = tuple(random_book(seed) for seed in range(150))


def may_pay(purse, row):
    return row[2] in purse[2] and purse[3] <= row[1] <= purse[4]


def area(limit):
    return {(purse, day) for purse in limit[0] for day in range(limit[1], limit[2] + 1)}


def open_rows(book):
    return [t for t, row in enumerate(book[2]) if row[0] == 'buy']


def slot_sums(book, charging):
    """What is paid in each slot, by a charging and by the paid rows."""
    sums = {}
    left = list(charging)
    for word, day, _, worth in book[2]:
        for purse, share in zip(book[0], left.pop(0) if word == 'buy' else worth):
            sums[purse[0], day] = sums.get((purse[0], day), 0) + share
    return sums


def keeps_limits(book, charging):
    sums = slot_sums(book, charging)
    return all(sum(sums.get(slot, 0) for slot in area(limit)) <= limit[3] for limit in book[1])


def good_chargings(book):
    """All good chargings, ascending."""
    ways = []
    for t in open_rows(book):
        row = book[2][t]
        ways.append([shares for shares in splits(row[3], len(book[0]))
                     if all(share == 0 or may_pay(purse, row) for purse, share in zip(book[0], shares))])
    return [charging for charging in itertools.product(*ways) if keeps_limits(book, charging)]


def left_of(book, limit):
    sums = slot_sums(book, [[0] * len(book[0])] * len(book[2]))
    return limit[3] - sum(sums.get(slot, 0) for slot in area(limit))


def bars(book):
    """All bars, with their lacks."""
    found = {}
    for limits in subsets(range(len(book[1]))):
        areas = [area(book[1][k]) for k in limits]
        if any(one <= other for one, other in itertools.permutations(areas, 2)):
            continue
        inside = set().union(*areas)
        left = sum(left_of(book, book[1][k]) for k in limits)
        for some in subsets(open_rows(book)):
            rows = [book[2][t] for t in some]
            slots = {(purse[0], row[1]) for row in rows for purse in book[0] if may_pay(purse, row)}
            lack = sum(row[3] for row in rows) - left
            if slots <= inside and lack > 0:
                found[some, limits] = lack
    return found


def sponsors(book):
    return sorted({purse[1] for purse in book[0]})


def parts_in(book, charging):
    """What the purses of each sponsor pay."""
    parts = dict.fromkeys(sponsors(book), 0)
    sponsor_of = {purse[0]: purse[1] for purse in book[0]}
    for (purse, _), share in slot_sums(book, charging).items():
        parts[sponsor_of[purse]] += share
    return tuple(parts[sponsor] for sponsor in sponsors(book))


def lessened(book):
    """All books with lesser amounts of open rows, with the units that are taken away."""
    places = open_rows(book)
    for amounts in itertools.product(*[range(book[2][t][3] + 1) for t in places]):
        rows = list(book[2])
        for t, amount in zip(places, amounts):
            rows[t] = (*rows[t][:3], amount)
        yield (book[0], book[1], tuple(rows)), sum(book[2][t][3] for t in places) - sum(amounts)


def paid_states(book, rows, states):
    """What can be paid in the areas of the limits behind these rows, unit by unit, from what is paid ahead of them."""
    for _, day, kind, amount in rows:
        for _ in range(amount):
            states = {more for state in states for more in unit_more(book, (day, kind), state)}
    return states


def unit_more(book, wish, state):
    """What is paid in the areas if a unit more is paid for a wish, for each purse that may pay for it."""
    found = set()
    for purse in book[0]:
        if may_pay(purse, ('', *wish)):
            more = tuple(paid + ((purse[0], wish[0]) in area(limit)) for paid, limit in zip(state, book[1]))
            if all(paid <= limit[3] for paid, limit in zip(more, book[1])):
                found.add(more)
    return found


def open_states(book):
    """What can be paid in the areas of the limits in good chargings; empty if the book does not fit."""
    ahead = tuple(limit[3] - left_of(book, limit) for limit in book[1])
    return paid_states(book, [book[2][t] for t in open_rows(book)], {ahead})


def are_free(book, wishes):
    """Whether some slot that may pay for a wish is in no area."""
    inside = set().union(*[area(limit) for limit in book[1]])
    slots = {(purse[0], day) for day, kind in wishes for purse in book[0] if may_pay(purse, ('', day, kind))}
    return not slots <= inside


def room(book, wishes):
    """The room of wishes in a book that fits, unit by unit."""
    if are_free(book, wishes):
        return None
    states = open_states(book)
    units = -1
    while states:
        units += 1
        states = {more for state in states for wish in wishes for more in unit_more(book, wish, state)}
    return units


def first_harmed(book, after, wishes):
    """As harm returns it, after being the book with rows that are paid."""
    if not open_states(after):
        return ()
    for some in subsets(sorted(set(wishes))):
        most = room(book, some)
        if most is not None and room(after, some) < most:
            return some
    return None


def paid_with(book, t, shares):
    """What the book is with row t paid with these shares; None if a cap is passed."""
    _, day, kind, _ = book[2][t]
    after = (*book[:2], book[2][:t] + (('paid', day, kind, shares),) + book[2][t + 1:])
    return after if accepted(after) else None
