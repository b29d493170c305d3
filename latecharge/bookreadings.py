"""Rows and books that texts write."""

from latecharge.wordreadings import Words


def purse_behind(words):
    """The purse that the words behind the first one write."""
    name = words.name()
    sponsor = words.name()
    first = words.number()
    last = words.number(first)
    kinds = words.names()
    words.end()
    return (name, sponsor, kinds, first, last)


def limit_behind(words):
    """The limit that the words behind the first one write."""
    names = words.names()
    first = words.number()
    last = words.number(first)
    cap = words.number()
    words.end()
    return (names, first, last, cap)


def row_behind(head, words):
    """The row that its first word and the words behind it write."""
    day = words.number()
    kind = words.name()
    worth = words.number() if head == "buy" else words.shares()
    words.end()
    return (head, day, kind, worth)


def heads_behind(purses, limits, rows):
    """The words with which the next line of a book can begin behind these."""
    if len(rows) > 0:
        return ("buy", "paid")
    if len(limits) > 0:
        return ("limit", "buy", "paid")
    if len(purses) > 0:
        return ("purse", "limit", "buy", "paid")
    return ("purse",)


def row_read(text, *, line=0, field=0):
    """The row by form that a string writes."""
    words = Words(text, line, field)
    head = words.one_of(("buy", "paid"))
    return row_behind(head, words)


def book_read(text, *, line=0):
    """The tuple of purses, limits and rows by form that a string writes."""
    purses = []
    limits = []
    rows = []
    for n, part in enumerate(text.split("\n")):
        words = Words(part, line + n, 0)
        head = words.one_of(heads_behind(purses, limits, rows))
        if head == "purse":
            purses.append(purse_behind(words))
        elif head == "limit":
            limits.append(limit_behind(words))
        else:
            rows.append(row_behind(head, words))
    return (tuple(purses), tuple(limits), tuple(rows))
