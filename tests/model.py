"""A card by the words of [55] to [57], with books tried one by one, and random events for it."""

from tests import brute
from tests.samples import splits

MOST, ROWS, PURSES, LIMITS = 40, 10, 6, 8
WORDS = ('buy', 'buy', 'buy', 'back', 'pay', 'pay', 'purse', 'limit', 'cap', 'cap', 'close')


def behind(book, event):
    """What the book is behind an event by kind that passes all checks of [57] up to the last two."""
    purses, limits, rows = book
    rows = list(rows)
    if event[0] == 'buy':
        rows.append(event)
    elif event[0] == 'back':
        rows[event[1]] = (*rows[event[1]][:3], rows[event[1]][3] - event[2])
    elif event[0] == 'pay':
        rows[event[1]] = ('paid', *rows[event[1]][1:3], event[2])
    elif event[0] == 'purse':
        shares = [dict(zip([purse[0] for purse in purses], row[3])) if row[0] == 'paid' else None for row in rows]
        purses = tuple(sorted((*purses, event[1])))
        rows = [row if paid is None else (*row[:3], tuple(paid.get(purse[0], 0) for purse in purses))
                for row, paid in zip(rows, shares)]
    elif event[0] == 'limit':
        limits += (event[1],)
    elif event[0] == 'cap':
        limits = limits[:event[1]] + ((*limits[event[1]][:3], event[2]),) + limits[event[1] + 1:]
    else:
        for t, shares in zip(brute.open_rows(book), event[1]):
            rows[t] = ('paid', *rows[t][1:3], shares)
    return (purses, limits, tuple(rows))


def reason_ahead(book, event):
    """The first reason of [57] up to the last two, for an event by kind; None if there is none of these."""
    purses, limits, rows = book
    word = event[0]
    most = {'buy': (rows, ROWS), 'purse': (purses, PURSES), 'limit': (limits, LIMITS)}.get(word)
    if most and len(most[0]) >= most[1]:
        return 'many'
    if word in ('back', 'pay'):
        if event[1] >= len(rows):
            return 'row'
        row = rows[event[1]]
        if row[0] == 'paid':
            return 'paid'
        if word == 'back' and event[2] > row[3]:
            return 'amount'
        if word == 'pay' and sum(event[2]) != row[3]:
            return 'shares'
    if word == 'purse' and event[1][0] in [purse[0] for purse in purses]:
        return 'name'
    if word == 'cap' and event[1] >= len(limits):
        return 'limit'
    if word == 'cap' and limits[event[1]][3] == event[2]:
        return 'same'
    if word == 'close' and not brute.open_rows(book):
        return 'open'
    if word == 'close' and event[1] not in brute.good_chargings(book):
        return 'charging'
    return None


def reason(book, event):
    """The first reason of [57] for an event by kind, but "full"; None if it is possible."""
    first = reason_ahead(book, event)
    if first is None and event[0] in ('pay', 'limit', 'cap') and not brute.accepted(behind(book, event)):
        return 'book'
    if first is None and not brute.open_states(behind(book, event)):
        return 'fit'
    return first


def answer(event, book):
    """The answer to an event, of which this is the book behind it."""
    if event[0] == 'buy':
        return len(book[2]) - 1
    return sum(book[2][t][3] for t in brute.open_rows(book))


def random_event(choice, book, most=3):
    """An event by kind, possible more often than not."""
    purses, limits, rows = book
    word = choice.choice(WORDS)
    at = choice.randint(0, len(rows)) if choice.random() < 0.3 else choice.choice(brute.open_rows(book) or [0])
    if word == 'buy':
        return (word, choice.randint(0, 2), choice.choice(brute.KINDS), choice.randint(0, most))
    if word == 'back':
        return (word, at, choice.randint(1, most))
    if word == 'pay':
        amount = rows[at][3] if at < len(rows) and rows[at][0] == 'buy' else 1
        amount += choice.random() < 0.1
        return (word, at, choice.choice(splits(amount, len(purses) + (choice.random() < 0.1))))
    if word == 'purse':
        more = choice.choice(brute.random_purses(choice, 6, 2))
        return (word, more)
    if word == 'limit':
        more = brute.random_limit(choice, purses, 2, 3 * most)
        return (word, more if choice.random() < 0.9 else (('none',), *more[1:]))
    if word == 'cap':
        return (word, choice.randint(0, len(limits)), choice.randint(0, 3 * most))
    good = brute.good_chargings(book)
    return (word, choice.choice(good) if choice.random() < 0.5 else ((0,) * len(purses),) * choice.randint(0, 2))
